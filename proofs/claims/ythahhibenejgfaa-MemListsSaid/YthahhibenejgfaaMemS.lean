/-
  The reference's Sort: each list put in its place, none twice. Conditions: the lists in memory.
-/
import Derived.Test.YthahhibenejgfaaMemS1
namespace Go.Proofs.Ythahhibenejgfaa
open Go.RowKit Mem
namespace Mem
theorem HW4 {wr W w1 w2 w4 : World} {v1 : Value} {n : Nat} {xs : List Value} {R : Obj} (h : Below wr.heap.size wr W) (b1 : Below W.heap.size W w1) (g1 : W.grownBy w1 (Value.slice none 0 0).ownBlock) (o1 : w1.ownsRow W.heap.size 23 1 v1 n xs) (g2 : w1.grownBy w2 (Value.slice none 0 0).ownBlock) (g4 : (w2.alloc R).grownBy w4 v1.ownBlock) : Below wr.heap.size wr w4 := by
  have s1 := g1.size
  have s2 := g2.size
  have s3 : (w2.alloc R).heap.size = w2.heap.size + 1 := by simp
  exact below_next h ((((b1.grown g2 s1 (fun j hj => by simp [nil_own] at hj)).alloc (by omega) _).grown g4 (by omega) (fun j hj => (o1.lt j hj).1))) h.size
end Mem
set_option maxRecDepth 100000 in
set_option maxHeartbeats 6400000 in
theorem refsort_l (a : Option Addr) (C : List Ls) (c : Nat) (w : World) (hin : LsIn w a C) (hc : C.length ≤ 1000) (hl : ∀ q, q < C.length → (C.getD q Ls.zero).L.length ≤ 1000000) :
    Calls Try.prog 10 #[.slice a C.length c] w fun e w' => ∃ v, e = .returned v ∧ RefOk C C.length w w' v := by
  have HIN := Lib.hid hin
  have HLL := Lib.hid hl
  clear hin hl
  obtain ⟨i0, hi, hz0, hz1, hz2⟩ := info_parts info23
  obtain ⟨i3, hi3, hy0, hy1, hy2⟩ := info_parts info3
  go_enter Try.func10, Try.ntmps10
  go_wp2_with fail
  go_loopw [4, 3] (fun x v wr => ∃ i : Nat, i ≤ C.length ∧ x = .int .i64 i ∧ Hid (RefOk C i w wr v)) (fun x _ _ => C.length - (intOf x).toNat)
  case atStart => exact ⟨0, Nat.zero_le _, rfl, Lib.hid ⟨0, [], List.Pairwise.nil, fun L => ⟨fun h => by simp [mL] at h, fun ⟨j, hj, _⟩ => absurd hj (by omega)⟩, Nat.le_refl _, ⟨rfl, .inl ⟨rfl, rfl⟩⟩, (fun x hx => by cases hx), Below.refl _ _⟩⟩
  case round =>
    obtain ⟨i, hi1, rfl, hrk⟩ := hrel
    obtain ⟨wo, hwo⟩ : ∃ x, x = wr := ⟨_, rfl⟩
    subst hwo
    by_cases hlt : i < C.length
    · have d1 : decide ((i : Int) < (C.length : Int)) = true := by simp; omega
      have i1 : (i : Int) < (C.length : Int) := by omega
      obtain ⟨B, E, hpw, hhd, hEi, hrow, hEn, hbw⟩ := hrk.out
      have HPW := Lib.hid hpw
      have HHD := Lib.hid hhd
      have HROW := Lib.hid hrow
      have HEN := Lib.hid hEn
      have HB := Lib.hid hbw
      have HEL := Lib.hid (fun q (hq : q < E.length) => (by
        obtain ⟨j, hj, g⟩ := (hhd _).1 (mem_yes hq rfl)
        rw [← g]
        exact HLL.out j (by omega) : (E.getD q Ls.zero).L.length ≤ 1000000))
      have hfm := own_forms hrow
      rcases HIN.out.next hbw with h0 | ⟨b, o, rfl, hbl, hcc⟩
      · rw [h0] at hlt; simp at hlt
      have HC0 := Lib.hid (hcc i hlt).1
      have HMN := Lib.hid (hcc i hlt).2
      have hml := HLL.out i hlt
      clear hrk hpw hhd hrow hEn hbw hcc
      have HHS := Lib.hid (fun q (hq : q < E.length) => held_same HHD.out hq)
      have HHI := Lib.hid (fun (x : Ls) p (e : x.L = (C.getD i Ls.zero).L) => held_ins (p := p) HHD.out e)
      generalize C.getD i Ls.zero = m at *
      obtain ⟨ma, r, mc⟩ := m
      unfold Ls.v at HC0
      dsimp only at HC0 HMN hml HHS HHI
      rcases hfm with ⟨rfl, hE0⟩ | ⟨g, o2, vc, rfl, hvc, hgs, hec⟩
      · go_wp2_with fail
        go_loopw [5] (fun x wq => x = .int .i64 0 ∧ Hid (Below wo.heap.size wo wq)) (fun x _ => 0)
        case atStart => exact ⟨rfl, Lib.hid (Below.refl _ _)⟩
        case round =>
          obtain ⟨rfl, HWQ⟩ := hrel
          go_wp2_with fail
          go_quiet (fail)
          go_wp2_with fail
          have HWQ := Lib.hid (below_drewN HWQ.out nq)
          obtain ⟨w0, hw0⟩ : ∃ w0, w0 = wr.drewN nq := ⟨_, rfl⟩
          rw [← hw0] at HWQ ⊢
          clear hw0
          go_quiet (fail)
          have HBQ := Lib.hid (below_drewN HWQ.out nq)
          obtain ⟨k, hk⟩ : ∃ k : Nat, k = 0 := ⟨_, rfl⟩
          have HLT : Hid (∀ p, p < k → Lt (E.getD p Ls.zero).L r) := Lib.hid (fun p hp => absurd hp (by omega))
          obtain ⟨W, hW⟩ : ∃ W, W = w0.drewN nq := ⟨_, rfl⟩
          have hbw : Below wo.heap.size wo W := by rw [hW]; exact HBQ.out
          rw [← hW]
          clear hW
          have HBW := Lib.hid (below_next HB.out hbw HB.out.size)
          have HEW := Lib.hid (fun x hx => (HEN.out x hx).next hbw)
          have c0 := cell_next HC0.out hbw
          have HMW := Lib.hid (HMN.out.next hbw)
          clear hbw
          have HG1 : Hid (W.grownBy W (Value.slice none 0 0).ownBlock) := Lib.hid ⟨rfl, rfl, rfl, Nat.le_refl _, fun _ _ _ => rfl⟩
          have HO1 : Hid (W.ownsRow W.heap.size 23 1 (.slice none 0 0) (0 + k) ([] ++ lvs (E.take k))) := Lib.hid (by subst hE0; subst hk; exact ⟨rfl, .inl ⟨rfl, rfl⟩⟩)
          have HB1 : Hid (Below W.heap.size W W) := Lib.hid (Below.grown (Below.refl _ _) HG1.out (Nat.le_refl _) (fun j hj => by simp [nil_own] at hj))
          have c1 := cell_next c0 HB1.out
          clear c0
          go_wp2_with (first
            | (at_builtin; refine wpList_append_any rfl (.tmp 57) (.tmp 60) 22 rfl W.heap.size 23 i0 _ 24 Try.underlying22 hi hz0 hz1 hz2 rfl v4 (0 + k + 1) ([] ++ lvs (E.take k) ++ lvs [⟨a2, r, c2⟩]) rfl HO4.out (_) (_) (_) (lvs (E.drop k)) rfl (by simp [lvs_len, hE0]) (.inl (by omega)) (lvs_one _) (by unfold maxLen; omega) (by omega) (Nat.le_trans HG1.out.size (Nat.le_trans HG2.out.size (Nat.le_trans (by simp) HG4.out.size))) ?_; intro v5 w5 hown5 hgrow5 hat5; have HO5 := Lib.hid hown5; have HG5 := Lib.hid hgrow5; have HT5 := Lib.hid hat5; clear hown5 hgrow5 hat5)
            | (at_builtin; refine wpList_append_any rfl (.tmp 49) (.tmp 55) 22 rfl W.heap.size 23 i0 _ 24 Try.underlying22 hi hz0 hz1 hz2 rfl (.slice none 0 0) (0 + k) ([] ++ lvs (E.take k)) rfl ((own_next HO1.out (Below.grown (Below.refl _ _) HG2.out (Nat.le_refl _) (fun j hj => by simp [nil_own] at hj))).alloc _) (some ⟨w2.heap.size, 0, none⟩) 1 1 (lvs [⟨a2, r, c2⟩]) rfl rfl (.inr ⟨_, rfl, World.news_of_block (cs := #[.slice a2 r.length c2]) (t := 23) (fr := (0, 0)) (heap_alloc_new _ _)⟩) (lvs_one _) (by unfold maxLen; omega) (by omega) (Nat.le_trans HG1.out.size (Nat.le_trans HG2.out.size (by simp))) ?_; intro v4 w4 hown4 hgrow4 hat4; have HO4 := Lib.hid hown4; have HG4 := Lib.hid hgrow4; have HT4 := Lib.hid hat4; clear hown4 hgrow4 hat4)
            | (at_builtin; refine wpList_append_any rfl (.const (.slice none 0 0)) (.tmp 53) 23 rfl W.heap.size 3 i3 _ 8 Try.underlying23 hi3 hy0 hy1 hy2 rfl (.slice none 0 0) 0 [] rfl ⟨rfl, .inl ⟨rfl, rfl⟩⟩ ma r.length mc (ivs r) rfl (ivs_len r) (ns_src (HMW.out.next HB1.out)) (ivs_one r) (by unfold maxLen; omega) (by omega) (Nat.le_refl _) ?_; intro v2 w2 hown2 hgrow2 hat2; rw [Nat.zero_add, List.nil_append] at hown2; obtain ⟨a2, c2, he2, _, _⟩ := own_ns hown2; have he3 : v2 = .slice a2 r.length c2 := he2; clear he2; subst he3; have HO2 := Lib.hid hown2; have HG2 := Lib.hid hgrow2; clear hown2 hgrow2 hat2))
          go_roundw
          case rel => exact ⟨i + 1, by omega, by go_num, Lib.hid (ref_ins HPW.out (HHI.out ⟨a2, r, c2⟩ k rfl) hEi (by omega) HLT.out (fun h => absurd h (by rw [hE0]; simp)) HEW.out HBW.out HO1.out HG1.out HO2.out HG2.out HG4.out HT4.out HO4.out HG5.out HT5.out (by subst hE0; subst hk; exact HO5.out))⟩
          case measure => simp [intOf]; omega
      · by_cases hE0 : E = []
        · have hl0 : E.length = 0 := by rw [hE0]; rfl
          rw [hl0]
          clear hec
          go_wp2_with fail
          go_loopw [5] (fun x wq => x = .int .i64 0 ∧ Hid (Below wo.heap.size wo wq)) (fun x _ => 0)
          case atStart => exact ⟨rfl, Lib.hid (Below.refl _ _)⟩
          case round =>
            obtain ⟨rfl, HWQ⟩ := hrel
            go_wp2_with fail
            go_quiet (fail)
            go_wp2_with fail
            have HWQ := Lib.hid (below_drewN HWQ.out nq)
            obtain ⟨w0, hw0⟩ : ∃ w0, w0 = wr.drewN nq := ⟨_, rfl⟩
            rw [← hw0] at HWQ ⊢
            clear hw0
            go_quiet (fail)
            have HBQ := Lib.hid (below_drewN HWQ.out nq)
            obtain ⟨k, hk⟩ : ∃ k : Nat, k = 0 := ⟨_, rfl⟩
            have HLT : Hid (∀ p, p < k → Lt (E.getD p Ls.zero).L r) := Lib.hid (fun p hp => absurd hp (by omega))
            obtain ⟨W, hW⟩ : ∃ W, W = w0.drewN nq := ⟨_, rfl⟩
            have hbw : Below wo.heap.size wo W := by rw [hW]; exact HBQ.out
            rw [← hW]
            clear hW
            have HBW := Lib.hid (below_next HB.out hbw HB.out.size)
            have HEW := Lib.hid (fun x hx => (HEN.out x hx).next hbw)
            have c0 := cell_next HC0.out hbw
            have HMW := Lib.hid (HMN.out.next hbw)
            clear hbw
            have HG1 : Hid (W.grownBy W (Value.slice none 0 0).ownBlock) := Lib.hid ⟨rfl, rfl, rfl, Nat.le_refl _, fun _ _ _ => rfl⟩
            have HO1 : Hid (W.ownsRow W.heap.size 23 1 (.slice none 0 0) (0 + k) ([] ++ lvs (E.take k))) := Lib.hid (by subst hE0; subst hk; exact ⟨rfl, .inl ⟨rfl, rfl⟩⟩)
            have HB1 : Hid (Below W.heap.size W W) := Lib.hid (Below.grown (Below.refl _ _) HG1.out (Nat.le_refl _) (fun j hj => by simp [nil_own] at hj))
            have c1 := cell_next c0 HB1.out
            clear c0
            go_wp2_with (first
              | (at_builtin; refine wpList_append_any rfl (.tmp 57) (.tmp 60) 22 rfl W.heap.size 23 i0 _ 24 Try.underlying22 hi hz0 hz1 hz2 rfl v4 (0 + k + 1) ([] ++ lvs (E.take k) ++ lvs [⟨a2, r, c2⟩]) rfl HO4.out (_) (_) (_) (lvs (E.drop k)) rfl (by simp [lvs_len, hE0]) (.inl (by omega)) (lvs_one _) (by unfold maxLen; omega) (by omega) (Nat.le_trans HG1.out.size (Nat.le_trans HG2.out.size (Nat.le_trans (by simp) HG4.out.size))) ?_; intro v5 w5 hown5 hgrow5 hat5; have HO5 := Lib.hid hown5; have HG5 := Lib.hid hgrow5; have HT5 := Lib.hid hat5; clear hown5 hgrow5 hat5)
              | (at_builtin; refine wpList_append_any rfl (.tmp 49) (.tmp 55) 22 rfl W.heap.size 23 i0 _ 24 Try.underlying22 hi hz0 hz1 hz2 rfl (.slice none 0 0) (0 + k) ([] ++ lvs (E.take k)) rfl ((own_next HO1.out (Below.grown (Below.refl _ _) HG2.out (Nat.le_refl _) (fun j hj => by simp [nil_own] at hj))).alloc _) (some ⟨w2.heap.size, 0, none⟩) 1 1 (lvs [⟨a2, r, c2⟩]) rfl rfl (.inr ⟨_, rfl, World.news_of_block (cs := #[.slice a2 r.length c2]) (t := 23) (fr := (0, 0)) (heap_alloc_new _ _)⟩) (lvs_one _) (by unfold maxLen; omega) (by omega) (Nat.le_trans HG1.out.size (Nat.le_trans HG2.out.size (by simp))) ?_; intro v4 w4 hown4 hgrow4 hat4; have HO4 := Lib.hid hown4; have HG4 := Lib.hid hgrow4; have HT4 := Lib.hid hat4; clear hown4 hgrow4 hat4)
              | (at_builtin; refine wpList_append_any rfl (.const (.slice none 0 0)) (.tmp 53) 23 rfl W.heap.size 3 i3 _ 8 Try.underlying23 hi3 hy0 hy1 hy2 rfl (.slice none 0 0) 0 [] rfl ⟨rfl, .inl ⟨rfl, rfl⟩⟩ ma r.length mc (ivs r) rfl (ivs_len r) (ns_src (HMW.out.next HB1.out)) (ivs_one r) (by unfold maxLen; omega) (by omega) (Nat.le_refl _) ?_; intro v2 w2 hown2 hgrow2 hat2; rw [Nat.zero_add, List.nil_append] at hown2; obtain ⟨a2, c2, he2, _, _⟩ := own_ns hown2; have he3 : v2 = .slice a2 r.length c2 := he2; clear he2; subst he3; have HO2 := Lib.hid hown2; have HG2 := Lib.hid hgrow2; clear hown2 hgrow2 hat2))
            go_roundw
            case rel => exact ⟨i + 1, by omega, by go_num, Lib.hid (ref_ins HPW.out (HHI.out ⟨a2, r, c2⟩ k rfl) hEi (by omega) HLT.out (fun h => absurd h (by rw [hE0]; simp)) HEW.out HBW.out HO1.out HG1.out HO2.out HG2.out HG4.out HT4.out HO4.out HG5.out HT5.out (by subst hE0; subst hk; exact HO5.out))⟩
            case measure => simp [intOf]; omega
        have hE0 : ¬ E.length = 0 := fun e => hE0 (List.length_eq_zero_iff.1 e)
        have HEC := Lib.hid hec
        clear hec
        go_wp2_with fail
        go_loopw [5] (fun x wq => ∃ k q : Nat, k ≤ E.length ∧ x = .int .i64 k ∧ Hid (∀ p, p < k → Lt (E.getD p Ls.zero).L r) ∧ Hid (wq = wo.drewN q)) (fun x _ => E.length - (intOf x).toNat)
        case atStart => exact ⟨0, 0, Nat.zero_le _, rfl, Lib.hid (fun j hj => absurd hj (by omega)), Lib.hid rfl⟩
        case round =>
          obtain ⟨k, q, hk, rfl, HLT, hwq⟩ := hrel
          have HBQ : Hid (Below wo.heap.size wo wr) := Lib.hid (by rw [hwq.out]; exact below_drewN (Below.refl _ _) q)
          have j1 : (0 : Int) ≤ (k : Int) := by omega
          have j2 : (k : Int) ≤ (E.length : Int) := by omega
          have j3 : (E.length : Int) ≤ (vc : Int) := by omega
          have j4 : (k : Int) ≤ (vc : Int) := by omega
          by_cases hkE : k < E.length
          · have d2 : decide ((k : Int) < (E.length : Int)) = true := by simp; omega
            have i2 : (k : Int) < (E.length : Int) := by omega
            have j5 : ¬ vc = k := by omega
            obtain ⟨x, hx⟩ : ∃ x, x = E.getD k Ls.zero := ⟨_, rfl⟩
            have HN2 := Lib.hid (HEN.out _ (getD_mem hkE))
            have HL2 := Lib.hid (HEL.out k hkE)
            have HSS := Lib.hid (HHS.out k hkE)
            have HCE := Lib.hid (HEC.out k hkE)
            have HLX : Hid (Lt (E.getD k Ls.zero).L r → ∀ p, p < k + 1 → Lt (E.getD p Ls.zero).L r) := Lib.hid (fun h j hj => by
              by_cases e : j = k
              · rw [e]; exact h
              · exact HLT.out j (by omega))
            have HGX : Hid (Lt r x.L → k < E.length → Lt r (E.getD k Ls.zero).L) := Lib.hid (fun h _ => by rw [← hx]; exact h)
            rw [← hx] at HN2 HL2 HSS HCE
            have HLX : Hid (Lt x.L r → ∀ p, p < k + 1 → Lt (E.getD p Ls.zero).L r) := Lib.hid (by rw [hx]; exact HLX.out)
            clear hx
            have c0 := cell_next HC0.out HBQ.out
            have c2 := cell_next HCE.out HBQ.out
            have HLE := Lib.hid (fun n => less_l x ⟨ma, r, mc⟩ (wr.drewN n) (ns_drewN (HN2.out.next HBQ.out) n) (ns_drewN (HMN.out.next HBQ.out) n) HL2.out hml)
            have HSI := Lib.hid (fun W (hb : Below wo.heap.size wo W) => sameInts_l x ⟨ma, r, mc⟩ W (HN2.out.next hb) (HMN.out.next hb) HL2.out)
            obtain ⟨xa, xl, xc⟩ := x
            unfold Ls.v at HLE HSI HCE c2
            dsimp only at HLE HSI HCE c2 HSS HLX HGX
            by_cases hz : cmpL xl r < 0
            · rw [show decide (cmpL xl r < 0) = true by simp [hz]] at HLE
              have HLY := Lib.hid (HLX.out hz)
              clear HSI HGX HSS HLX hz
              go_wp2_with fail
              go_quiet ((go_at_call 22; exact Calls.quiet_of (HLE.out _)))
              go_wp2_with fail
              go_roundw
              case rel => exact ⟨k + 1, q + nq, by omega, by go_num, HLY, Lib.hid (by rw [hwq.out]; exact drewN_drewN wo q nq)⟩
              case measure => simp [intOf]; omega
            · rw [show decide (cmpL xl r < 0) = false by simp [hz]] at HLE
              have HNL : Hid (xl ≠ r → Lt r xl) := Lib.hid (fun h => nlt_lt hz h)
              clear HLX hz
              go_wp2_with fail
              go_quiet ((go_at_call 22; exact Calls.quiet_of (HLE.out _)))
              go_wp2_with fail
              have HBQ := Lib.hid (below_drewN HBQ.out nq)
              obtain ⟨w0, hw0⟩ : ∃ w0, w0 = wr.drewN nq := ⟨_, rfl⟩
              rw [← hw0] at HBQ ⊢
              clear hw0 HLE c0 c2 hwq
              have c0 := cell_next HC0.out HBQ.out
              have c2 := cell_next HCE.out HBQ.out
              have HSI := Lib.hid (fun n => HSI.out (w0.drewN n) (below_drewN HBQ.out n))
              by_cases he : xl = r
              · rw [show decide (xl = r) = true by simp [he]] at HSI
                have HHD := Lib.hid (HSS.out he)
                clear HNL he HSS HGX
                go_quiet ((go_at_call 16; exact Calls.quiet_of (HSI.out _)))
                go_wp2_with fail
                go_roundw
                case rel => exact ⟨i + 1, by omega, by go_num, Lib.hid (ref_on HPW.out HHD.out hEi HROW.out HEN.out HB.out (below_drewN HBQ.out nq))⟩
                case measure => simp [intOf]; omega
              · rw [show decide (xl = r) = false by simp [he]] at HSI
                have HGT := Lib.hid (HGX.out (HNL.out he))
                clear HNL he HSS HGX
                go_quiet ((go_at_call 16; exact Calls.quiet_of (HSI.out _)))
                have HBQ := Lib.hid (below_drewN HBQ.out nq)
                clear c0 c2 HSI
                obtain ⟨W, hW⟩ : ∃ W, W = w0.drewN nq := ⟨_, rfl⟩
                have hbw : Below wo.heap.size wo W := by rw [hW]; exact HBQ.out
                rw [← hW]
                clear hW
                have HBW := Lib.hid (below_next HB.out hbw HB.out.size)
                have HEW := Lib.hid (fun x hx => (HEN.out x hx).next hbw)
                have c0 := cell_next HC0.out hbw
                have HMW := Lib.hid (HMN.out.next hbw)
                have HSK := Lib.hid (fun W' (hb : Below wo.heap.size wo W') => ls_news (w := W') (b := g) (o := o2) (C := E.take k) (fun q hq => by
                  rw [List.length_take] at hq
                  rw [getD_take E k q (by omega)]
                  exact cell_next (HEC.out q (by omega)) hb))
                have HSD := Lib.hid (fun W' (hb : Below wo.heap.size wo W') => ls_news (w := W') (b := g) (o := o2 + k) (C := E.drop k) (fun q hq => by
                  rw [getD_drop, Nat.add_assoc]
                  rw [List.length_drop] at hq
                  exact cell_next (HEC.out (k + q) (by omega)) hb))
                have HWR := Lib.hid hbw
                clear hbw
                go_wp2_with (first
                  | (at_builtin; refine wpList_append_any rfl (.tmp 57) (.tmp 60) 22 rfl W.heap.size 23 i0 _ 24 Try.underlying22 hi hz0 hz1 hz2 rfl v4 (0 + k + 1) ([] ++ lvs (E.take k) ++ lvs [⟨a2, r, c2⟩]) rfl HO4.out (some ⟨g, o2 + k, none⟩) (E.length - k) (vc - k) (lvs (E.drop k)) rfl (by simp [lvs_len]) (.inr ⟨_, rfl, HSD.out w4 (HW4 HWR.out HB1.out HG1.out HO1.out HG2.out HG4.out)⟩) (lvs_one _) (by unfold maxLen; omega) (by omega) (Nat.le_trans HG1.out.size (Nat.le_trans HG2.out.size (Nat.le_trans (by simp) HG4.out.size))) ?_; intro v5 w5 hown5 hgrow5 hat5; have HO5 := Lib.hid hown5; have HG5 := Lib.hid hgrow5; have HT5 := Lib.hid hat5; clear hown5 hgrow5 hat5)
                  | (at_builtin; refine wpList_append_any rfl (.tmp 49) (.tmp 55) 22 rfl W.heap.size 23 i0 _ 24 Try.underlying22 hi hz0 hz1 hz2 rfl v1 (0 + k) ([] ++ lvs (E.take k)) rfl ((own_next HO1.out (Below.grown (Below.refl _ _) HG2.out (Nat.le_refl _) (fun j hj => by simp [nil_own] at hj))).alloc _) (some ⟨w2.heap.size, 0, none⟩) 1 1 (lvs [⟨a2, r, c2⟩]) rfl rfl (.inr ⟨_, rfl, World.news_of_block (cs := #[.slice a2 r.length c2]) (t := 23) (fr := (0, 0)) (heap_alloc_new _ _)⟩) (lvs_one _) (by unfold maxLen; omega) (by omega) (Nat.le_trans HG1.out.size (Nat.le_trans HG2.out.size (by simp))) ?_; intro v4 w4 hown4 hgrow4 hat4; have HO4 := Lib.hid hown4; have HG4 := Lib.hid hgrow4; have HT4 := Lib.hid hat4; clear hown4 hgrow4 hat4)
                  | (at_builtin; refine wpList_append_any rfl (.const (.slice none 0 0)) (.tmp 53) 23 rfl w1.heap.size 3 i3 _ 8 Try.underlying23 hi3 hy0 hy1 hy2 rfl (.slice none 0 0) 0 [] rfl ⟨rfl, .inl ⟨rfl, rfl⟩⟩ ma r.length mc (ivs r) rfl (ivs_len r) (ns_src (HMW.out.next HB1.out)) (ivs_one r) (by unfold maxLen; omega) (by omega) (Nat.le_refl _) ?_; intro v2 w2 hown2 hgrow2 hat2; rw [Nat.zero_add, List.nil_append] at hown2; obtain ⟨a2, c2, he2, _, _⟩ := own_ns hown2; have he3 : v2 = .slice a2 r.length c2 := he2; clear he2; subst he3; have HO2 := Lib.hid hown2; have HG2 := Lib.hid hgrow2; clear hown2 hgrow2 hat2)
                  | (at_builtin; refine wpList_append_any rfl _ _ 22 rfl W.heap.size 23 i0 _ 24 Try.underlying22 hi hz0 hz1 hz2 rfl (.slice none 0 0) 0 [] rfl ⟨rfl, .inl ⟨rfl, rfl⟩⟩ (some ⟨g, o2, none⟩) k (vc) (lvs (E.take k)) rfl (by rw [lvs_len, List.length_take]; omega) (.inr ⟨_, rfl, HSK.out W HWR.out⟩) (lvs_one _) (by unfold maxLen; omega) (by omega) (Nat.le_refl _) ?_; intro v1 w1 hown1 hgrow1 hat1; have HO1 := Lib.hid hown1; have HG1 := Lib.hid hgrow1; clear hown1 hgrow1 hat1; have HB1 : Hid (Below W.heap.size W w1) := Lib.hid (Below.grown (Below.refl _ _) HG1.out (Nat.le_refl _) (fun j hj => by simp [nil_own] at hj)); have c1 := cell_next c0 HB1.out; clear c0))
                go_roundw
                case rel => exact ⟨i + 1, by omega, by go_num, Lib.hid (ref_ins HPW.out (HHI.out ⟨a2, r, c2⟩ k rfl) hEi (by omega) HLT.out (HGT.out) HEW.out HBW.out HO1.out HG1.out HO2.out HG2.out HG4.out HT4.out HO4.out HG5.out HT5.out HO5.out)⟩
                case measure => simp [intOf]; omega
          · obtain rfl : k = E.length := by omega
            have d2 : decide ((E.length : Int) < (E.length : Int)) = false := by simp
            go_wp2_with fail
            go_quiet (fail)
            go_wp2_with fail
            have HBQ := Lib.hid (below_drewN HBQ.out nq)
            obtain ⟨w0, hw0⟩ : ∃ w0, w0 = wr.drewN nq := ⟨_, rfl⟩
            rw [← hw0] at HBQ ⊢
            clear hw0 hwq
            go_quiet (fail)
            have HBQ := Lib.hid (below_drewN HBQ.out nq)
            obtain ⟨W, hW⟩ : ∃ W, W = w0.drewN nq := ⟨_, rfl⟩
            have hbw : Below wo.heap.size wo W := by rw [hW]; exact HBQ.out
            rw [← hW]
            clear hW
            have HBW := Lib.hid (below_next HB.out hbw HB.out.size)
            have HEW := Lib.hid (fun x hx => (HEN.out x hx).next hbw)
            have c0 := cell_next HC0.out hbw
            have HMW := Lib.hid (HMN.out.next hbw)
            have HSK := Lib.hid (fun W' (hb : Below wo.heap.size wo W') => ls_news (w := W') (b := g) (o := o2) (C := E.take E.length) (fun q hq => by
              rw [List.length_take] at hq
              rw [getD_take E E.length q (by omega)]
              exact cell_next (HEC.out q (by omega)) hb))
            have HSD := Lib.hid (fun W' (hb : Below wo.heap.size wo W') => ls_news (w := W') (b := g) (o := o2 + E.length) (C := E.drop E.length) (fun q hq => by
              rw [getD_drop, Nat.add_assoc]
              rw [List.length_drop] at hq
              exact cell_next (HEC.out (E.length + q) (by omega)) hb))
            have HWR := Lib.hid hbw
            clear hbw
            go_wp2_with (first
              | (at_builtin; refine wpList_append_any rfl (.tmp 57) (.tmp 60) 22 rfl W.heap.size 23 i0 _ 24 Try.underlying22 hi hz0 hz1 hz2 rfl v4 (0 + E.length + 1) ([] ++ lvs (E.take E.length) ++ lvs [⟨a2, r, c2⟩]) rfl HO4.out (_) (_) (_) (lvs (E.drop E.length)) rfl (by simp [lvs_len]) (.inl (by omega)) (lvs_one _) (by unfold maxLen; omega) (by omega) (Nat.le_trans HG1.out.size (Nat.le_trans HG2.out.size (Nat.le_trans (by simp) HG4.out.size))) ?_; intro v5 w5 hown5 hgrow5 hat5; have HO5 := Lib.hid hown5; have HG5 := Lib.hid hgrow5; have HT5 := Lib.hid hat5; clear hown5 hgrow5 hat5)
              | (at_builtin; refine wpList_append_any rfl (.tmp 49) (.tmp 55) 22 rfl W.heap.size 23 i0 _ 24 Try.underlying22 hi hz0 hz1 hz2 rfl v1 (0 + E.length) ([] ++ lvs (E.take E.length)) rfl ((own_next HO1.out (Below.grown (Below.refl _ _) HG2.out (Nat.le_refl _) (fun j hj => by simp [nil_own] at hj))).alloc _) (some ⟨w2.heap.size, 0, none⟩) 1 1 (lvs [⟨a2, r, c2⟩]) rfl rfl (.inr ⟨_, rfl, World.news_of_block (cs := #[.slice a2 r.length c2]) (t := 23) (fr := (0, 0)) (heap_alloc_new _ _)⟩) (lvs_one _) (by unfold maxLen; omega) (by omega) (Nat.le_trans HG1.out.size (Nat.le_trans HG2.out.size (by simp))) ?_; intro v4 w4 hown4 hgrow4 hat4; have HO4 := Lib.hid hown4; have HG4 := Lib.hid hgrow4; have HT4 := Lib.hid hat4; clear hown4 hgrow4 hat4)
              | (at_builtin; refine wpList_append_any rfl (.const (.slice none 0 0)) (.tmp 53) 23 rfl w1.heap.size 3 i3 _ 8 Try.underlying23 hi3 hy0 hy1 hy2 rfl (.slice none 0 0) 0 [] rfl ⟨rfl, .inl ⟨rfl, rfl⟩⟩ ma r.length mc (ivs r) rfl (ivs_len r) (ns_src (HMW.out.next HB1.out)) (ivs_one r) (by unfold maxLen; omega) (by omega) (Nat.le_refl _) ?_; intro v2 w2 hown2 hgrow2 hat2; rw [Nat.zero_add, List.nil_append] at hown2; obtain ⟨a2, c2, he2, _, _⟩ := own_ns hown2; have he3 : v2 = .slice a2 r.length c2 := he2; clear he2; subst he3; have HO2 := Lib.hid hown2; have HG2 := Lib.hid hgrow2; clear hown2 hgrow2 hat2)
              | (at_builtin; refine wpList_append_any rfl _ _ 22 rfl W.heap.size 23 i0 _ 24 Try.underlying22 hi hz0 hz1 hz2 rfl (.slice none 0 0) 0 [] rfl ⟨rfl, .inl ⟨rfl, rfl⟩⟩ (some ⟨g, o2, none⟩) E.length (vc) (lvs (E.take E.length)) rfl (by rw [lvs_len, List.length_take]; omega) (.inr ⟨_, rfl, HSK.out W HWR.out⟩) (lvs_one _) (by unfold maxLen; omega) (by omega) (Nat.le_refl _) ?_; intro v1 w1 hown1 hgrow1 hat1; have HO1 := Lib.hid hown1; have HG1 := Lib.hid hgrow1; clear hown1 hgrow1 hat1; have HB1 : Hid (Below W.heap.size W w1) := Lib.hid (Below.grown (Below.refl _ _) HG1.out (Nat.le_refl _) (fun j hj => by simp [nil_own] at hj)); have c1 := cell_next c0 HB1.out; clear c0))
            go_roundw
            case rel => exact ⟨i + 1, by omega, by go_num, Lib.hid (ref_ins HPW.out (HHI.out ⟨a2, r, c2⟩ E.length rfl) hEi (by omega) HLT.out (fun h => absurd h (Nat.lt_irrefl _)) HEW.out HBW.out HO1.out HG1.out HO2.out HG2.out HG4.out HT4.out HO4.out HG5.out HT5.out (by rw [Nat.sub_self]; exact HO5.out))⟩
            case measure => simp [intOf]; omega
    · have hkm : i = C.length := by omega
      have d1 : decide ((i : Int) < (C.length : Int)) = false := by simp; omega
      go_wp2_with fail
      go_ret
      exact ⟨_, rfl, hkm ▸ hrk.out⟩
end Go.Proofs.Ythahhibenejgfaa
