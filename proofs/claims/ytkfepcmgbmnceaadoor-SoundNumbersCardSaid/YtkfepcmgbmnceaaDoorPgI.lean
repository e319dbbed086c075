import Derived.Test.YtkfepcmgbmnceaaDoorPgH
import Derived.Deep.RegionLaw
import Derived.Deep.AppendLies
import Derived.Deep.DeepCutAuto
import Derived.Deep.CutBlock
namespace Go.Proofs.YtkfepcmgbmnceaaDoor
open Go.RowKit ExprA SndA
/-- as 'step_append_lies', nothing appended too -/
theorem step_append_own {P : Program} {w : World} {ops : Array Oper} {o : Oper} {a : Act} {K : Act → World → Prop} {Q : Exit → Act → World → Prop} {E : Prop} (hgd : o.guard = none) (s x : Operand) (t : TypeId)
    (ho : o.op = .call { callee := .builtin .append, args := #[s, x], argTypes := #[t, t] })
    (base : Nat) (e : TypeId) (i : TypeInfo) (z : Value) (size bytes : Nat) (ht : P.underlying t = some (.slice e)) (hi : P.info? e = some i) (hz : i.zero = some z)
    (hsize : i.size = size) (hby : i.bytes = bytes) (hzs : z.cells.size = size) (hsz : 0 < size)
    (v : Value) (n : Nat) (xs : List Value) (hs : a.eval s = v) (hown : w.ownsRow base e size v n xs)
    (ad : Addr) (m c : Nat) (news : List Value) (hx : a.eval x = .slice (some ad) m c) (hl : news.length = m * size) (hnews : ∀ j u, news[j]? = some u → w.cell? (ad.add j) = some u) (h1 : ∀ u ∈ news, u.oneCell' = true)
    (h63 : n + m ≤ maxLen) (hbytes : (n + m) * bytes ≤ 140737488355328) (hbase : base ≤ w.heap.size)
    (h : ∀ v' w', w'.ownsRow base e size v' (n + m) (xs ++ news) → w.grownBy w' v.ownBlock → K (a.put o.dst v') w') :
    if Region.wanted o (yielded ops a.tmps) = true then Oper.wp P o a w K Q else E := by
  have hw : Region.wanted o (yielded ops a.tmps) = true := by simp [Region.wanted, hgd]
  rw [if_pos hw]
  exact wp_append_own w s x t ho base e i z size bytes ht hi hz hsize hby hzs hsz v n xs hs hown ad m c news hx hl hnews h1 h63 hbytes hbase fun v' w' h2 h3 _ => h v' w' h2 h3
namespace SndA
/-- a program in memory -/
structure PM (lo : Nat) (x : World) (tb T : Nat) (P : List Th) : Prop where
  cells : ∃ cs : Array Value, x.heap[tb]? = some (.cells cs 31 (0, 0)) ∧ cs.size = T ∧ ∀ t, t < T → cs[t]? = some (P.getD t Th.zero).v
  ths : ∀ t, t < T → ThF x lo x.heap.size (P.getD t Th.zero)
theorem PM.next {lo tb T : Nat} {x y : World} {P : List Th} (h : PM lo x tb T P) (hb : Below x.heap.size x y) : PM lo y tb T P := by
  obtain ⟨cs, c1, c2⟩ := h.cells
  exact ⟨⟨cs, (hb.block tb (lt_of_heap c1)).trans c1, c2⟩, fun t ht => ((h.ths t ht).keep (fun b _ hl => hb.block b hl)).mono (Nat.le_refl _) hb.size⟩
theorem pm_prin {lo tb T N : Nat} {x : World} {P : List Th} (h : PM lo x tb T P) (hf : Few4 T N P) : PrIn x (some ⟨tb, 0, none⟩) P := by
  obtain ⟨cs, c1, c2, c3⟩ := h.cells
  have hl := hf.len
  have := hf.t1
  have := hf.t4
  exact prin_mk c1 (fun t ht => c3 t (by omega)) (by omega) (by omega) fun t ht => thin_of (h.ths t (by omega)) (hf.good t (by omega)) (by have := hf.most t (by omega); omega)
theorem getD_set {P : List Th} {t s : Nat} {th : Th} (ht : t < P.length) : (P.set t th).getD s Th.zero = if s = t then th else P.getD s Th.zero := by
  rw [List.getD_eq_getElem?_getD, List.getD_eq_getElem?_getD, List.getElem?_set]
  by_cases h : s = t
  · subst h; simp [ht]
  · simp [h, Ne.symm h]
theorem own_row {w : World} {base : Nat} {v : Value} {L : List Ins} (h : w.ownsRow base 34 7 v L.length (lcells L)) : ∃ th : Th, th.L = L ∧ v = th.v ∧ ((th.a = none ∧ th.L = [] ∧ th.c = 0) ∨ ∃ g cur, th.a = some ⟨g, 0, none⟩ ∧ base ≤ g ∧ w.heap[g]? = some (.cells cur 34 (0, 0)) ∧ cur.toList.take (th.L.length * 7) = lcells th.L ∧ th.L.length ≤ th.c ∧ th.c ≤ maxLen) := by
  rcases h.2 with ⟨hv, h0⟩ | ⟨g, cap, cur, hv, h1, h2, h3, h4, h5, h6⟩
  · have hL : L = [] := List.length_eq_zero_iff.1 h0
    subst hL
    exact ⟨⟨none, [], 0⟩, rfl, hv, .inl ⟨rfl, rfl, rfl⟩⟩
  · exact ⟨⟨some ⟨g, 0, none⟩, L, cap⟩, rfl, hv, .inr ⟨g, cur, rfl, h1, h2, h6, h3, h4⟩⟩
/-- what is there behind the statement that takes an instruction out -/
theorem pm_less {lo bp tb T N t k n : Nat} {x w1 w2 wf : World} {P : List Th} {v1 v2 : Value} {cs : Array Value}
    (h : PM lo x tb T P) (hf : Few4 T N P) (ht : t < T) (hn : (P.getD t Th.zero).L.length = n) (hk : k < n)
    (h6 : ∀ q, q < n → ((P.getD t Th.zero).L.getD q Ins.zero).k ≠ 6) (hlt : lo ≤ tb) (hbp : x.heap[bp]? = some (.cells cs 26 (0, 0)))
    (g1 : x.grownBy w1 none) (o1 : w1.ownsRow x.heap.size 34 7 v1 k (lcells ((P.getD t Th.zero).L.take k)))
    (g2 : w1.grownBy w2 v1.ownBlock) (o2 : w2.ownsRow x.heap.size 34 7 v2 (n - 1) (lcells ((P.getD t Th.zero).L.take k ++ (P.getD t Th.zero).L.drop (k + 1))))
    (hwf : wf = w2.setCell ⟨tb, t, none⟩ v2) : ∃ P2, Few4 T N P2 ∧ PM lo wf tb T P2 ∧ wf.heap[bp]? = some (.cells cs 26 (0, 0)) ∧ (∀ b, b < lo → wf.heap[b]? = x.heap[b]?) ∧ x.heap.size ≤ wf.heap.size := by
  obtain ⟨cc, c1, c2, c3⟩ := h.cells
  have hs1 := g1.size
  have hs2 := g2.size
  have hsf : wf.heap.size = w2.heap.size := by rw [hwf]; simp
  have hold : ∀ b, b < x.heap.size → b ≠ tb → wf.heap[b]? = x.heap[b]? := fun b hb hbt => by
    rw [hwf, Below.heap_setCell w2 ⟨tb, t, none⟩ v2 b hbt, g2.block b (by omega) (own_far o1 hb), g1.block b hb (by simp)]
  have htbl := lt_of_heap c1
  have hnb : bp ≠ tb := by
    intro e
    rw [e, c1] at hbp
    injection hbp with hbp
    injection hbp with _ h3 _
    exact absurd h3 (by decide)
  generalize hth : P.getD t Th.zero = th at *
  have hgood := hf.good t ht
  rw [hth] at hgood
  have hLl : (th.L.take k ++ th.L.drop (k + 1)).length = n - 1 := by simp; omega
  rw [← hLl] at o2
  obtain ⟨th2, e1, e2, hrow⟩ := own_row o2
  have htok : ∀ q, q < th.L.length → TokAt wf lo wf.heap.size (th.L.getD q Ins.zero) := fun q hq => by
    have hx := (h.ths t ht).tok q (by rw [hth]; exact hq)
    rw [hth] at hx
    rcases hx with g | ⟨g, a1, a2, a3, a4, a5⟩
    · exact .inl g
    · have hne : g ≠ tb := by
        intro e
        rw [e, c1] at a5
        injection a5 with a5
        injection a5 with _ h3 _
        exact absurd h3 (by decide)
      exact .inr ⟨g, a1, a2, a3, by omega, by rw [hold g a4 hne]; exact a5⟩
  have hmem : ∀ i, i ∈ th.L.take k ++ th.L.drop (k + 1) → TokAt wf lo wf.heap.size i := fun i hi => by
    have hL : i ∈ th.L := by
      rcases List.mem_append.1 hi with hi | hi
      · exact List.mem_of_mem_take hi
      · exact List.mem_of_mem_drop hi
    obtain ⟨q, hq, rfl⟩ := List.getElem_of_mem hL
    have := htok q hq
    have e : th.L.getD q Ins.zero = th.L[q] := by simp [hq]
    rwa [e] at this
  have hPl := hf.len
  have hne2 : ∀ g, x.heap.size ≤ g → wf.heap[g]? = w2.heap[g]? := fun g hg => by
    rw [hwf]; exact Below.heap_setCell w2 ⟨tb, t, none⟩ v2 g (by show g ≠ tb; omega)
  have hth2 : ThF wf lo wf.heap.size th2 := by
    refine ⟨?_, fun q hq => hmem _ ?_⟩
    · rcases hrow with a | ⟨g, cur, a1, a2, a3, a4⟩
      · exact .inl a
      · exact .inr ⟨g, cur, a1, by omega, by rw [hsf]; exact lt_of_heap a3, by rw [hne2 g a2]; exact a3, a4⟩
    · rw [e1] at hq ⊢
      have e : (th.L.take k ++ th.L.drop (k + 1)).getD q Ins.zero = (th.L.take k ++ th.L.drop (k + 1))[q] := by rw [List.getD_eq_getElem?_getD, List.getElem?_eq_getElem hq]; rfl
      rw [e]; exact List.getElem_mem _
  refine ⟨P.set t th2, ⟨by simp [hPl], hf.t1, hf.t4, hf.n18, fun s hs => ?_, fun s hs => ?_, fun s hs => ?_⟩, ⟨⟨cc.set! t v2, ?_, by simp [c2], fun s hs => ?_⟩, fun s hs => ?_⟩, by rw [hold bp (lt_of_heap hbp) hnb]; exact hbp, fun b hb => hold b (by omega) (by omega), by omega⟩
  · rw [getD_set (by omega)]
    by_cases hst : s = t
    · rw [if_pos hst, e1]
      exact good_less hgood (fun q hq => h6 q (by omega))
    · rw [if_neg hst]; exact hf.good s hs
  · rw [getD_set (by omega)]
    by_cases hst : s = t
    · rw [if_pos hst, e1, hLl]
      have := hf.most t ht
      rw [hth] at this
      omega
    · rw [if_neg hst]; exact hf.most s hs
  · rw [getD_set (by omega)]
    by_cases hst : s = t
    · rw [if_pos hst, e1, hLl]
      have := hf.tot t ht
      rw [hth, hn] at this
      rcases this with this | this
      · omega
      · subst hst
        have := Nat.mul_le_mul_right T (show n - 1 - 1 ≤ n - 1 by omega)
        exact .inr (by omega)
    · rw [if_neg hst]; exact hf.tot s hs
  · rw [hwf]
    have htw : w2.heap[tb]? = some (.cells cc 31 (0, 0)) := by
      rw [g2.block tb (by omega) (own_far o1 htbl), g1.block tb htbl (by simp)]; exact c1
    have := heap_setCell_same w2 tb t cc 31 v2 htw
    simpa using this
  · rw [getD_set (by omega)]
    by_cases hst : s = t
    · subst hst
      rw [if_pos rfl]
      simp [c2, ht, e2]
    · rw [if_neg hst]
      have := c3 s hs
      simpa [Array.getElem?_set, Ne.symm hst] using this
  · rw [getD_set (by omega)]
    by_cases hst : s = t
    · rw [if_pos hst]; exact hth2
    · rw [if_neg hst]
      have hs3 := h.ths s hs
      refine ThF.mono (lo := lo) (hi := x.heap.size) ?_ (Nat.le_refl _) (by omega)
      have hr := hs3.row
      refine ⟨?_, fun q hq => ?_⟩
      · rcases hr with a | ⟨g, cur, a1, a2, a3, a4, a5⟩
        · exact .inl a
        · have hne : g ≠ tb := by
            intro e
            rw [e, c1] at a4
            injection a4 with a4
            injection a4 with _ h3 _
            exact absurd h3 (by decide)
          exact .inr ⟨g, cur, a1, a2, a3, by rw [hold g a3 hne]; exact a4, a5⟩
      · rcases hs3.tok q hq with a | ⟨g, a1, a2, a3, a4, a5⟩
        · exact .inl a
        · have hne : g ≠ tb := by
            intro e
            rw [e, c1] at a5
            injection a5 with a5
            injection a5 with _ h3 _
            exact absurd h3 (by decide)
          exact .inr ⟨g, a1, a2, a3, a4, by rw [hold g a4 hne]; exact a5⟩
/-- none of the first q is a Skip -/
def NoSk (L : List Ins) (q : Nat) : Prop := ∀ j, j < q → (L.getD j Ins.zero).k ≠ 6
theorem nosk_zero (L : List Ins) : NoSk L 0 := fun _ hj => absurd hj (Nat.not_lt_zero _)
theorem nosk_succ {L : List Ins} {q : Nat} (h : NoSk L q) (h6 : (L.getD q Ins.zero).k ≠ 6) : NoSk L (q + 1) := fun j hj => by
  by_cases e : j = q
  · subst e; exact h6
  · exact h j (by omega)
/-- the end of the statement that takes an instruction out -/
theorem less_end {bp tb T N t k k1 m : Nat} {w x w1 w2 wf : World} {P : List Th} {v1 v2 : Value} {ta : Option Addr} {L : List Ins} {tc : Nat} {bs : Array Value}
    (h : PM w.heap.size x tb T P) (hf : Few4 T N P) (ht : t < T) (hth : P.getD t Th.zero = ⟨ta, L, tc⟩) (hk : k < L.length) (h6 : NoSk L L.length) (hb : Below w.heap.size w x) (htb : w.heap.size ≤ tb)
    (hbp : x.heap[bp]? = some (.cells bs 26 (0, 0))) (hkt : KTab w) (hk1 : k1 = k + 1)
    (g1 : x.drew.grownBy w1 (Value.ownBlock (.slice none 0 0))) (o1 : w1.ownsRow x.heap.size 34 7 v1 (0 + k) ([] ++ lcells (L.take k)))
    (g2 : w1.grownBy w2 v1.ownBlock) (hm : m = L.length - 1) (o2 : w2.ownsRow x.heap.size 34 7 v2 m ([] ++ lcells (L.take k) ++ lcells (L.drop k1)))
    (hwf : wf = w2.setCell ⟨tb, t, none⟩ v2) : ∃ P2, Few4 T N P2 ∧ PM w.heap.size wf tb T P2 ∧ KTab wf ∧ wf.heap[bp]? = some (.cells bs 26 (0, 0)) ∧ Below w.heap.size w wf := by
  subst hk1
  rw [hm, List.nil_append, ← lcells_app] at o2
  rw [List.nil_append, Nat.zero_add] at o1
  have g1' : x.grownBy w1 none := ⟨g1.os, g1.tape, g1.output, g1.size, fun b hb _ => g1.block b hb (by intro h; cases h)⟩
  obtain ⟨P2, f, pm, bx, _, _⟩ := pm_less (n := L.length) h hf ht (by rw [hth]) hk (by rw [hth]; exact h6) htb hbp g1' (by rw [hth]; exact o1) g2 (by rw [hth]; exact o2) hwf
  have hb1 : Below w.heap.size w w1 := hb.grown g1' hb.size (fun j hj => by cases hj)
  have hb2 : Below w.heap.size w w2 := hb1.grown g2 hb1.size (fun j hj => Nat.le_trans hb.size (o1.lt j hj).1)
  have hbf : Below w.heap.size w wf := by rw [hwf]; exact hb2.setCell (show w.heap.size ≤ tb from htb) v2
  exact ⟨P2, f, pm, hkt.next hbf, bx, hbf⟩
end SndA
set_option maxRecDepth 100000 in
set_option maxHeartbeats 32000000 in
theorem soundNumbers_any (a : Option Addr) (R : List Int) (c : Nat) (threads gone : Int) (w : World) (h : NIn w a R) (hk : KTab w) (hR : R.length ≤ maxLen) :
    Calls Tryd.prog 3 #[.slice a R.length c, .int .i64 threads, .int .i64 gone] w fun e w' => e = .returned (.bool true) ∧ Below w.heap.size w w' := by
  unfold maxLen at hR
  have HN := Lib.hid h
  have HK := Lib.hid hk
  clear h hk
  by_cases h18 : 18 < R.length
  · have d18 : decide ((18 : Int) < (R.length : Int)) = true := by simp; omega
    have i18 : (18 : Int) < (R.length : Int) := by omega
    have HAW := Lib.hid (awake_any w HK.out)
    go_enter Tryd.func3, Tryd.ntmps3
    go_wp2_with fail
    refine HAW.out.mono ?_
    rintro e w1 ⟨rfl, hb1⟩
    go_wp2_with fail
    go_ret
    exact ⟨rfl, hb1⟩
  · have d18 : decide ((18 : Int) < (R.length : Int)) = false := by simp; omega
    have i18 : ¬ (18 : Int) < (R.length : Int) := by omega
    have hRi : (R.length : Int) ≤ 18 := by omega
    have HP4 := Lib.hid (fun w => place_any threads 4 w (by decide) (by decide))
    rw [show ((4 : Nat) : Int) = 4 from rfl] at HP4
    obtain ⟨t0, ht0⟩ : ∃ k : Nat, threads % 4 = (k : Int) := ⟨(threads % 4).toNat, by omega⟩
    have hti : (t0 : Int) < 4 := by omega
    rw [ht0] at HP4
    clear ht0
    obtain ⟨T, hT⟩ : ∃ x, x = 1 + t0 := ⟨_, rfl⟩
    have hTi : (1 : Int) + (t0 : Int) = (T : Int) := by omega
    have HT : Hid (1 ≤ T ∧ T ≤ 4) := Lib.hid (by omega)
    have hT4 : (T : Int) ≤ 4 := by omega
    have hT1 : (1 : Int) ≤ (T : Int) := by omega
    clear hT
    have HPG := Lib.hid (progn_any a R c T 8 w HN.out (by omega) (by omega) (by omega) (by omega))
    rw [show ((8 : Nat) : Int) = 8 from rfl] at HPG
    have HPL := Lib.hid (fun w => place_any gone T w (by omega) (by omega))
    obtain ⟨t, ht⟩ : ∃ k : Nat, gone % (T : Int) = (k : Int) := ⟨(gone % (T : Int)).toNat, by have := Int.emod_nonneg gone (show (T : Int) ≠ 0 by omega); omega⟩
    have htT : t < T := by have := Int.emod_lt_of_pos gone (show (0 : Int) < (T : Int) by omega); omega
    rw [ht] at HPL
    clear ht
    go_enter Tryd.func3, Tryd.ntmps3
    go_wp2_with fail
    refine (HP4.out _).mono ?_
    rintro e w0 ⟨rfl, rfl⟩
    clear HP4
    go_wp2_with fail
    refine HPG.out.mono ?_
    rintro e w1 ⟨tb, P, rfl, hPN⟩
    have HPN := Lib.hid hPN
    have HB1 := Lib.hid hPN.bel
    clear hPN HPG
    have HF4 : Hid (Few4 T R.length P) := Lib.hid ⟨HPN.out.len, HT.out.1, HT.out.2, by omega, HPN.out.good, HPN.out.most, HPN.out.tot⟩
    have HTB : Hid (w.heap.size ≤ tb) := Lib.hid HPN.out.new
    obtain ⟨bp, hbp⟩ : ∃ x, x = w1.heap.size := ⟨_, rfl⟩
    obtain ⟨wb, hwb⟩ : ∃ x, x = w1.alloc (.cells #[.int .i64 2, .slice (some ⟨tb, 0, none⟩) T T] 26 (0, 0)) := ⟨_, rfl⟩
    have HBW : Hid (Below w1.heap.size w1 wb) := Lib.hid (by rw [hwb]; exact (Below.refl _ _).alloc (Nat.le_refl _) _)
    have HBX : Hid (wb.heap[bp]? = some (.cells #[.int .i64 2, .slice (some ⟨tb, 0, none⟩) T T] 26 (0, 0))) := Lib.hid (by rw [hwb, hbp]; exact heap_alloc_new _ _)
    have HPMb : Hid (PM w.heap.size wb tb T P) := Lib.hid ((PM.mk HPN.out.cells HPN.out.ths).next HBW.out)
    have HKb : Hid (KTab wb) := Lib.hid ((HK.out.next HB1.out).next HBW.out)
    have HBb : Hid (Below w.heap.size w wb) := Lib.hid (below_next HB1.out HBW.out)
    have HCK : Hid (∀ (P2 : List Th) (x : World), Few4 T R.length P2 → PrIn x (some ⟨tb, 0, none⟩) P2 → KTab x → Calls Tryd.prog 9 #[.agg #[.int .i64 2, .slice (some ⟨tb, 0, none⟩) T T]] x fun e w' => e = .returned (.int .i64 0) ∧ Below x.heap.size x w') := Lib.hid (fun P2 x hf hp hk => by
      have := progcheck_any 2 (some ⟨tb, 0, none⟩) P2 T x hp hk (by decide) (by decide)
      rw [hf.len, few_err hf] at this
      exact this)
    go_wp2_with fail
    rw [← hwb, ← hbp]
    clear hwb hbp HBW HB1 HPN
    refine (HCK.out P _ HF4.out (pm_prin HPMb.out HF4.out) HKb.out).mono ?_
    rintro e w2 ⟨rfl, hb2⟩
    have HPM := Lib.hid (HPMb.out.next hb2)
    have HK2 := Lib.hid (HKb.out.next hb2)
    have HB2 : Hid (Below w.heap.size w w2) := Lib.hid (below_next HBb.out hb2)
    have HBX2 : Hid (w2.heap[bp]? = some (.cells #[.int .i64 2, .slice (some ⟨tb, 0, none⟩) T T] 26 (0, 0))) := Lib.hid ((hb2.block bp (lt_of_heap HBX.out)).trans HBX.out)
    have cbx1 : w2.cell? ⟨bp, 1, none⟩ = some (.slice (some ⟨tb, 0, none⟩) T T) := cell_of_row _ _ _ _ _ _ HBX2.out
    clear hb2 HPMb HKb HBb HBX
    go_wp2_with fail
    refine (HPL.out _).mono ?_
    rintro e w3 ⟨rfl, rfl⟩
    clear HPL
    obtain ⟨th, hth⟩ : ∃ x, x = P.getD t Th.zero := ⟨_, rfl⟩
    obtain ⟨ta, L, tc⟩ := th
    have HTH : Hid (P.getD t Th.zero = ⟨ta, L, tc⟩) := Lib.hid hth.symm
    clear hth
    have hn8 : L.length ≤ 8 := by have := HF4.out.most t htT; rw [HTH.out] at this; exact this
    have hn8i : (L.length : Int) ≤ 8 := by omega
    have htTi : (t : Int) < (T : Int) := by omega
    have ctt : w2.cell? ⟨tb, t, none⟩ = some (.slice ta L.length tc) := by
      obtain ⟨cs, c1, c2, c3⟩ := HPM.out.cells
      rw [cell_of_row _ _ _ _ _ _ c1, c3 t htT, HTH.out]
      rfl
    have HLI : Hid (LIn w2 ta L) := Lib.hid (by
      have := thin_of (HPM.out.ths t htT) (HF4.out.good t htT) (by have := HF4.out.most t htT; omega)
      rw [HTH.out] at this
      exact this.lin)
    go_wp2_with fail
    go_loopw [9] (fun x wr => ∃ q : Nat, wr = w2 ∧ q ≤ L.length ∧ x = .int .i64 (q : Int) ∧ NoSk L q) (fun x _ => L.length - (intOf x).toNat)
    case atStart => exact ⟨0, rfl, Nat.zero_le _, rfl, nosk_zero L⟩
    case round =>
      obtain ⟨q, rfl, hq, rfl, hns⟩ := hrel
      have HNS := Lib.hid hns
      clear hns
      have hqi8 : (q : Int) ≤ 8 := by omega
      by_cases hlt : q < L.length
      · have hqi : (q : Int) < (L.length : Int) := by omega
        have hqd : decide ((q : Int) < (L.length : Int)) = true := by simp; omega
        rcases HLI.out with h0 | ⟨b, o, rfl, hbl, hcc⟩
        · rw [h0] at hlt; simp at hlt
        · have c0 := (hcc q hlt).c0
          clear hcc
          obtain ⟨kq, hkq⟩ : ∃ x, x = (L.getD q Ins.zero).k := ⟨_, rfl⟩
          rw [← hkq] at c0
          by_cases h6 : kq = 6
          · have q6 : (kq == 6) = true := by simp [h6]
            clear h6 hkq
            go_wp2_with fail
            refine (awake_any _ HK2.out).mono ?_
            rintro e w4 ⟨rfl, hb4⟩
            have HB4 := Lib.hid (below_next HB2.out hb4)
            clear hb4
            go_wp2_with fail
            go_ret
            exact ⟨rfl, HB4.out⟩
          · have q6 : (kq == 6) = false := by simp [h6]
            have HN2 : Hid (NoSk L (q + 1)) := Lib.hid (nosk_succ HNS.out (by rw [← hkq]; exact h6))
            clear h6 hkq
            go_wp2_with fail
            go_roundw
            case rel => exact ⟨q + 1, by first | trivial | rfl, hlt, by go_num, HN2.out⟩
            case measure => simp [intOf]; omega
      · have hqi : ¬ (q : Int) < (L.length : Int) := by omega
        have hqd : decide ((q : Int) < (L.length : Int)) = false := by simp; omega
        have HNL : Hid (NoSk L L.length) := Lib.hid (by have e : q = L.length := by omega
                                                        rw [← e]; exact HNS.out)
        go_upto_if 57 with (fail)
        go_cut [] (fun wf => ∃ P2 : List Th, Few4 T R.length P2 ∧ PM w.heap.size wf tb T P2 ∧ KTab wf ∧ (World.heap wf)[bp]? = some (.cells #[.int .i64 2, .slice (some ⟨tb, 0, none⟩) T T] 26 (0, 0)) ∧ Below w.heap.size w wf)
        case first =>
          by_cases hn0 : L.length = 0
          · have e0 : decide ((0 : Int) < (L.length : Int)) = false := by rw [decide_eq_false_iff_not]; omega
            have e0i : ¬ (0 : Int) < (L.length : Int) := by omega
            have e0n : decide (0 < L.length) = false := by rw [decide_eq_false_iff_not]; omega
            clear hn0
            go_wp2_with fail
            go_meet
            exact ⟨P, HF4.out, HPM.out, HK2.out, HBX2.out, HB2.out⟩
          · have e0 : decide ((0 : Int) < (L.length : Int)) = true := by rw [decide_eq_true_iff]; omega
            have e0i : (0 : Int) < (L.length : Int) := by omega
            have e0n : decide (0 < L.length) = true := by rw [decide_eq_true_iff]; omega
            have HPK := Lib.hid (fun w => place_any gone L.length w (by omega) (by omega))
            obtain ⟨k, hk⟩ : ∃ k : Nat, gone % (L.length : Int) = (k : Int) := ⟨(gone % (L.length : Int)).toNat, by have := Int.emod_nonneg gone (show (L.length : Int) ≠ 0 by omega); omega⟩
            have hkn : k < L.length := by have := Int.emod_lt_of_pos gone (show (0 : Int) < (L.length : Int) by omega); omega
            rw [hk] at HPK
            clear hk hn0
            have HROW : Hid (∃ g cur, ta = some ⟨g, 0, none⟩ ∧ (World.heap wr)[g]? = some (.cells cur 34 (0, 0)) ∧ cur.toList.take (L.length * 7) = lcells L ∧ L.length ≤ tc ∧ tc ≤ maxLen) := Lib.hid (by
              have := (HPM.out.ths t htT).row
              rw [HTH.out] at this
              rcases this with ⟨_, h2, _⟩ | ⟨g, cur, h1, _, _, h4, h5, h6, h7⟩
              · rw [show L = [] from h2] at hkn; exact absurd hkn (Nat.not_lt_zero _)
              · exact ⟨g, cur, h1, h4, h5, h6, h7⟩)
            obtain ⟨g, cur, rfl, hcur, hct, htc, htm⟩ := HROW.out
            have HCUR := Lib.hid hcur
            have HCT := Lib.hid hct
            clear hcur hct HROW HLI
            unfold maxLen at htm
            obtain ⟨k1, hk1⟩ : ∃ x, x = k + 1 := ⟨_, rfl⟩
            have zk : IntKind.i64.wrap ((k : Int) + 1) = (k1 : Int) := by rw [IntWalk.i64_in _ (by omega)]; omega
            have hki : (k : Int) < (L.length : Int) := by omega
            have hki2 : (k : Int) ≤ (tc : Int) := by omega
            have hk1i : (k1 : Int) ≤ (L.length : Int) := by omega
            have htci : (L.length : Int) ≤ (tc : Int) := by omega
            have hk1n : k1 ≤ L.length := by omega
            have HK1 := Lib.hid hk1
            clear hk1
            obtain ⟨i0, hi, hz0, hz1, hz2⟩ := info_parts infoI
            go_wp2_with fail
            refine (HPK.out _).mono ?_
            rintro e w4 ⟨rfl, rfl⟩
            clear HPK
            go_wp2_with fail
            obtain ⟨cs, ct0, ctsz, cts⟩ := HPM.out.cells
            have HTC : Hid ((World.heap wr)[tb]? = some (.cells cs 31 (0, 0))) := Lib.hid ct0
            have HCS : Hid (cs[t]? = some (.slice (some ⟨g, 0, none⟩) L.length tc)) := Lib.hid (by rw [cts t htT, HTH.out]; rfl)
            clear ct0 ctsz cts
            obtain ⟨off, hif, hoff⟩ : ∃ off : Nat, (if tc = k1 then some (⟨g, 0, none⟩ : Addr) else some ⟨g, k1 * 7, none⟩) = some ⟨g, off, none⟩ ∧ (off = k1 * 7 ∨ L.length ≤ k1) := by
              by_cases hcap : tc = k1
              · exact ⟨0, by rw [if_pos hcap], .inr (by omega)⟩
              · exact ⟨k1 * 7, by rw [if_neg hcap], .inl rfl⟩
            have HOFF := Lib.hid hoff
            clear hoff
            go_region_law (first | (have hgd := HO1; clear hgd; refine step_append_own (by rfl) _ _ _ (by rfl) (World.heap wr).size 34 i0 _ 7 72 Tryd.underlying31 hi hz0 hz1 hz2 rfl (by omega) _ (0 + k) ([] ++ lcells (L.take k)) (by rfl) HO1.out ⟨g, off, none⟩ (L.length - k1) (tc - k1) (lcells (L.drop k1)) (by rfl) (by rw [lcells_len, List.length_drop]) (news_drop HC1.out HCT.out k1 _ HOFF.out) (lcells_one _) (by unfold maxLen; omega) (by omega) HG1.out.size ?_; intro v2 w2 hown2 hgrow2; rw [Nat.zero_add] at hown2; obtain ⟨pa2, pc2, rfl⟩ := own_len hown2; have HO2 := Lib.hid hown2; have HG2 := Lib.hid hgrow2; have HBX3 : Hid ((World.heap w2)[bp]? = some (.cells #[.int .i64 2, .slice (some ⟨tb, 0, none⟩) T T] 26 (0, 0))) := Lib.hid ((hgrow2.block bp (lt_of_heap HBX1.out) (own_far HO1.out (lt_of_heap HBX2.out))).trans HBX1.out); have cb2 := cell_of_row w2 bp 1 _ _ _ HBX3.out; have HTC2 : Hid ((World.heap w2)[tb]? = some (.cells cs 31 (0, 0))) := Lib.hid ((hgrow2.block tb (lt_of_heap HTC1.out) (own_far HO1.out (lt_of_heap HTC.out))).trans HTC1.out); have ct2 := (cell_of_row w2 tb t _ _ _ HTC2.out).trans HCS.out; have ft2 := frozen_of_row w2 tb t _ _ HTC2.out; clear hown2 hgrow2) | (refine step_append_own (by rfl) _ _ _ (by rfl) (World.heap wr).size 34 i0 _ 7 72 Tryd.underlying31 hi hz0 hz1 hz2 rfl (by omega) _ 0 [] (by rfl) ⟨rfl, .inl ⟨rfl, rfl⟩⟩ ⟨g, 0, none⟩ k tc (lcells (L.take k)) (by rfl) (by rw [lcells_len, List.length_take]; omega) (news_take HCUR.out HCT.out k) (lcells_one _) (by unfold maxLen; omega) (by omega) (Nat.le_refl _) ?_; intro v1 w1 hown1 hgrow1; have HO1 := Lib.hid hown1; have HG1 := Lib.hid hgrow1; have HBX1 : Hid ((World.heap w1)[bp]? = some (.cells #[.int .i64 2, .slice (some ⟨tb, 0, none⟩) T T] 26 (0, 0))) := Lib.hid ((hgrow1.block bp (lt_of_heap HBX2.out) (by intro h; cases h)).trans HBX2.out); have cb1 := cell_of_row w1 bp 1 _ _ _ HBX1.out; have HTC1 : Hid ((World.heap w1)[tb]? = some (.cells cs 31 (0, 0))) := Lib.hid ((hgrow1.block tb (lt_of_heap HTC.out) (by intro h; cases h)).trans HTC.out); have ct1 := (cell_of_row w1 tb t _ _ _ HTC1.out).trans HCS.out; have HC1 : Hid ((World.heap w1)[g]? = some (.cells cur 34 (0, 0))) := Lib.hid ((hgrow1.block g (lt_of_heap HCUR.out) (by intro h; cases h)).trans HCUR.out); clear hown1 hgrow1))
            all_goals as_aux_lemma =>
              go_wp2_with fail
              go_meet
              exact less_end HPM.out HF4.out htT HTH.out hkn HNL.out HB2.out HTB.out HBX2.out HK.out HK1.out HG1.out HO1.out HG2.out (by have := HK1.out; omega) HO2.out rfl
        case rest =>
          obtain ⟨P2, f4, pm, kt, bx, bl⟩ := hcut
          obtain ⟨wz, hwz⟩ : ∃ x, x = wc := ⟨_, rfl⟩
          subst hwz
          have F4 := Lib.hid f4
          have PMZ := Lib.hid pm
          have KZ := Lib.hid kt
          have BZ := Lib.hid bl
          have cz0 : wz.cell? ⟨bp, 0, none⟩ = some (.int .i64 2) := cell_of_row _ _ _ _ _ _ bx
          have cz1 : wz.cell? ⟨bp, 1, none⟩ = some (.slice (some ⟨tb, 0, none⟩) T T) := cell_of_row _ _ _ _ _ _ bx
          clear f4 pm kt bx bl
          go_wp2_with fail
          refine (HCK.out P2 _ F4.out (pm_prin PMZ.out F4.out) KZ.out).mono ?_
          rintro e w5 ⟨rfl, hb5⟩
          have B5 := Lib.hid (below_next BZ.out hb5)
          have K5 := Lib.hid (KZ.out.next hb5)
          clear hb5
          go_wp2_with fail
          refine (awake_any _ K5.out).mono ?_
          rintro e w6 ⟨rfl, hb6⟩
          have B6 := Lib.hid (below_next B5.out hb6)
          clear hb6
          go_wp2_with fail
          go_ret
          exact ⟨rfl, B6.out⟩
end Go.Proofs.YtkfepcmgbmnceaaDoor
