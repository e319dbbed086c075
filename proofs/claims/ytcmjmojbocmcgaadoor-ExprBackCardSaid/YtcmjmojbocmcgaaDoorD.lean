import Derived.Test.YtcmjmojbocmcgaaDoorC
namespace Go.Proofs.YtcmjmojbocmcgaaDoor
open Go.RowKit ExprA
attribute [local irreducible] ExprA.pcells
set_option maxRecDepth 100000 in
set_option maxHeartbeats 8000000 in
theorem eval_any (a : Option Addr) (L : List (Int × Int)) (c : Nat) (a2 : Option Addr) (R : List Int) (c2 : Nat) (w : World) (h : TIn w a L) (h2 : NIn w a2 R) :
    Calls Tryd.prog 14 #[.slice a L.length c, .slice a2 R.length c2] w fun e w' => e = .returned (.int .i64 (evalB L R)) ∧ Below w.heap.size w w' := by
  have HI := Lib.hid h
  have HN := Lib.hid h2
  have HC := Lib.hid (check_any a L c w h)
  clear h h2
  cases hck : checkB L with
  | false =>
    rw [hck] at HC
    have hr : evalB L R = 0 := by unfold evalB; rw [hck]; rfl
    rw [hr]
    go_enter Tryd.func14, Tryd.ntmps14
    go_wp2_with fail
    refine HC.out.mono ?_
    rintro e w1 ⟨rfl, hbe⟩
    go_wp2_with fail
    go_ret
    exact ⟨rfl, hbe⟩
  | true =>
    rw [hck] at HC
    have hr : evalB L R = (evTo L R L.length).1 0 := by unfold evalB; rw [hck]; rfl
    rw [hr]
    have hl9 : L.length ≤ 9 := by
      unfold checkB at hck
      simp at hck
      exact hck.1
    have hall : ∀ k, k ≤ L.length → ∃ n, chkTo L k = some n := by
      intro k hk
      cases hc : chkTo L k with
      | some n => exact ⟨n, rfl⟩
      | none =>
        have := chkTo_none hc (L.length - k)
        rw [show k + (L.length - k) = L.length by omega] at this
        unfold checkB at hck
        rw [this] at hck
        simp at hck
    have HALL := Lib.hid hall
    clear hall
    go_enter Tryd.func14, Tryd.ntmps14
    go_wp2_with fail
    refine HC.out.mono ?_
    rintro e w1 ⟨rfl, hbe1⟩
    have HB1 := Lib.hid hbe1
    clear hbe1 HC
    go_wp2_with fail
    refine (ops_any _).mono ?_
    rintro e w2 ⟨rfl, hbe2⟩
    have HP2 := Lib.hid ((zero_pat w1).below hbe2 (zero_pat w1).lt)
    have HB2 := Lib.hid (HB1.out.trans ((((Below.refl _ _).alloc (Nat.le_refl _) _).trans (hbe2.mono (by simp))).mono HB1.out.size))
    clear hbe2
    unfold opsA
    go_wp2_with fail
    have HO2 : Hid (OAt (w2.alloc (.cells opsA 52 (0, 0))) w2.heap.size) := Lib.hid (heap_alloc_new _ _)
    have HPB : w.heap.size ≤ w1.heap.size := HB1.out.size
    have HOB : w.heap.size ≤ w2.heap.size := HB2.out.size
    have HPO : w1.heap.size < w2.heap.size := HP2.out.lt
    go_loopw [6, 16] (fun p i wr => ∃ k n : Nat, k ≤ L.length ∧ chkTo L k = some n ∧ p = .int .i64 ((n : Int) - 1) ∧ i = .int .i64 k ∧ Hid (PAt wr w1.heap.size (evTo L R k).1) ∧ Hid (OAt wr w2.heap.size) ∧ Below w.heap.size w wr) (fun _ i _ => L.length - (intOf i).toNat)
    case atStart => exact ⟨0, 0, Nat.zero_le _, rfl, rfl, rfl, Lib.hid (HP2.out.alloc _), HO2, HB2.out.alloc HOB _⟩
    case round =>
      obtain ⟨k, n, hk, hck2, rfl, rfl, HPA, HOA, hbe⟩ := hrel
      have hev : (evTo L R k).2 = n := ev_count hck2
      have hn9 := chkTo_le hck2
      have hni : (n : Int) ≤ 9 := by omega
      have hni0 : (0 : Int) ≤ (n : Int) := by omega
      have hki9 : (k : Int) ≤ 9 := by omega
      by_cases hlt : k < L.length
      · have hdk : decide ((k : Int) < (L.length : Int)) = true := by simp; omega
        have hki : (k : Int) < (L.length : Int) := by omega
        obtain ⟨n2, hn2⟩ := HALL.out (k + 1) hlt
        have hok : okTok (L.getD k (0, 0)) n = some n2 := by
          have h3 : (chkTo L k).bind (okTok (L.getD k (0, 0))) = some n2 := hn2
          rw [hck2] at h3
          exact h3
        have hE : evTo L R (k + 1) = evStep R (L.getD k (0, 0)) ((evTo L R k).1, n) := by
          show evStep R _ (evTo L R k) = _
          rw [← hev]
        have hpl := HPA.out.lt
        have hol := HOA.out.lt
        rcases HI.out.next hbe with h0 | ⟨b, o, rfl, hbl, hcc⟩
        · rw [h0] at hlt; simp at hlt
        · have hc1 := (hcc k hlt).1
          have hc2 := (hcc k hlt).2
          clear hcc
          generalize L.getD k (0, 0) = pp at *
          obtain ⟨tk, tv⟩ := pp
          simp only at hc1 hc2
          have HE := Lib.hid hE
          have HN2 := Lib.hid hn2
          have HCK := Lib.hid hck2
          clear hE hn2 hev hck2
          generalize evTo L R k = PP at *
          obtain ⟨P, nn⟩ := PP
          simp only at HPA HE
          have hwb : w.heap.size ≤ wr.heap.size := hbe.size
          by_cases h3 : tk = 3
          · subst h3
            have hv : 1 ≤ tv ∧ tv ≤ 6 ∧ 2 ≤ n ∧ n2 = n - 1 := by
              unfold okTok at hok
              dsimp only at hok
              rw [if_neg (by omega), if_neg (by omega)] at hok
              split at hok
              · simp at hok; omega
              · simp at hok
            obtain ⟨hv1, hv6, hn, rfl⟩ := hv
            obtain ⟨v, rfl⟩ : ∃ v : Nat, tv = (v : Int) := ⟨tv.toNat, by omega⟩
            obtain ⟨m, rfl⟩ : ∃ m : Nat, n = m + 2 := ⟨n - 2, by omega⟩
            have e1 : ((m + 2 : Nat) : Int) - 1 = (m : Int) + 1 := by omega
            rw [e1]
            have hm9 : (m : Int) < 9 := by omega
            have hm91 : (m : Int) + 1 < 9 := by omega
            have hwr : IntKind.i64.wrap ((m : Int) + 1) = (m : Int) + 1 := by rw [IntKind.wrap_i64]; omega
            have hm01 : (0 : Int) ≤ (m : Int) + 1 := by omega
            have hm0 : (0 : Int) ≤ (m : Int) := by omega
            have hv7 : (v : Int) < 7 := by omega
            have hv0 : (0 : Int) ≤ (v : Int) := by omega
            have hent := fun x y w => enter_op v x y w (by omega) (by omega)
            have HOP := Lib.hid (fun a b w => op_call v a b w (by omega) (by omega))
            have HPQ : Hid (PAt (wr.alloc (.cells #[.int .i64 3, .int .i64 (v : Int)] 34 (0, 0))) w1.heap.size P) := Lib.hid (HPA.out.alloc _)
            have HOQ : Hid (OAt (wr.alloc (.cells #[.int .i64 3, .int .i64 (v : Int)] 34 (0, 0))) w2.heap.size) := Lib.hid (HOA.out.alloc _)
            have HTQ : (wr.alloc (.cells #[.int .i64 3, .int .i64 (v : Int)] 34 (0, 0))).cell? ⟨wr.heap.size, 1, none⟩ = some (.int .i64 (v : Int)) := cell_of_row _ _ _ _ _ _ (heap_alloc_new _ _)
            have HBQ : Hid (Below w.heap.size w (wr.alloc (.cells #[.int .i64 3, .int .i64 (v : Int)] 34 (0, 0)))) := Lib.hid (hbe.alloc hwb _)
            go_wp2_with fail
            generalize (wr.alloc (.cells #[.int .i64 3, .int .i64 (v : Int)] 34 (0, 0))) = wq at *
            have hp1 := HPQ.out.ci m (by omega)
            have hp2 := HPQ.out.ci (m + 1) (by omega)
            have hof := HOQ.out.fn v (by omega) (by omega)
            have hfz := HPQ.out.frozen m
            have HX := Lib.hid (HOP.out (P m) (P (m + 1)) wq.drew)
            generalize opId v = F at *
            refine wp_region_still_tail 15 (by kernel_rfl) (by kernel_rfl) ?_
            simp only [List.take_succ_cons, List.take_zero, List.drop_succ_cons, List.drop_zero]
            show wpStill _ _ wq.drew (fun a' => wpList _ _ _ _ a' wq.drew) _ _
            repeat still_step
            still_call HX.out
            repeat still_step
            refine wpStill_nil ?_
            go_wp2_with fail
            go_roundw
            case rel =>
              refine ⟨k + 1, m + 1, hlt, by rw [HN2.out]; rfl, by congr 1; omega, by go_num, ?_, ?_, ?_⟩
              · rw [HE.out]
                have e2 : evStep R (3, (v : Int)) (P, m + 2) = (upd P m (opF v (P m) (P (m + 1))), m + 1) := by
                  unfold evStep
                  rw [if_pos rfl]
                  rfl
                rw [e2]
                exact Lib.hid ((HPQ.out.set m _).drew)
              · exact Lib.hid (HOQ.out.set (by omega) _ _)
              · exact (HBQ.out.setCell HPB _).drew
            case measure => simp [intOf]; omega
          · have hn8 : (n : Int) < 9 := by
              have := chkTo_le HN2.out
              unfold okTok at hok
              dsimp only at hok
              split at hok
              · simp at hok; omega
              · split at hok
                · simp at hok; omega
                · rw [if_neg (by omega)] at hok; simp at hok
            have hn3 : n2 = n + 1 := by
              unfold okTok at hok
              dsimp only at hok
              split at hok
              · simp at hok; omega
              · split at hok
                · simp at hok; omega
                · rw [if_neg (by omega)] at hok; simp at hok
            subst hn3
            have hn8' : n < 9 := by omega
            by_cases h1 : tk = 1
            · subst h1
              have hfz := HPA.out.frozen n
              have hp1 := HPA.out.ci n hn8'
              go_wp2_with fail
              go_roundw
              case rel =>
                refine ⟨k + 1, n + 1, hlt, HN2.out, by congr 1; omega, by go_num, ?_, ?_, ?_⟩
                · rw [HE.out]
                  exact Lib.hid ((HPA.out.set n _).alloc _)
                · exact Lib.hid ((HOA.out.set (by omega) _ _).alloc _)
                · exact (hbe.setCell HPB _).alloc (hbe.setCell HPB _).size _
              case measure => simp [intOf]; omega
            · have hv : tk = 2 ∧ 0 ≤ tv ∧ tv < 8 := by
                unfold okTok at hok
                dsimp only at hok
                rw [if_neg (by omega)] at hok
                split at hok
                · omega
                · rw [if_neg (by omega)] at hok; simp at hok
              obtain ⟨rfl, hv0, hv8⟩ := hv
              obtain ⟨v, rfl⟩ : ∃ v : Nat, tv = (v : Int) := ⟨tv.toNat, by omega⟩
              have hfz := HPA.out.frozen n
              have hp1 := HPA.out.ci n hn8'
              by_cases hr : v < R.length
              · have hdr : decide ((v : Int) < (R.length : Int)) = true := by simp; omega
                have hdi : (v : Int) < (R.length : Int) := by omega
                rcases HN.out.next hbe with h0 | ⟨b2, o2, rfl, hbl2, hcc2⟩
                · rw [h0] at hr; simp at hr
                · have hc5 := hcc2 v hr
                  clear hcc2
                  have HX : Hid (evStep R (2, (v : Int)) (P, n) = (upd P n (R.getD v 0), n + 1)) := by
                    show evStep _ _ _ = _
                    unfold evStep
                    rw [if_neg (show ¬ (2 : Int) = 3 by decide), if_neg (show ¬ (2 : Int) = 1 by decide)]
                    rfl
                  generalize R.getD v 0 = x at *
                  go_wp2_with fail
                  go_roundw
                  case rel =>
                    refine ⟨k + 1, n + 1, hlt, HN2.out, by congr 1; omega, by go_num, ?_, ?_, ?_⟩
                    · rw [HE.out, HX.out]
                      exact Lib.hid ((HPA.out.set n _).alloc _)
                    · exact Lib.hid ((HOA.out.set (by omega) _ _).alloc _)
                    · exact (hbe.setCell HPB _).alloc (hbe.setCell HPB _).size _
                  case measure => simp [intOf]; omega
              · have hdr : decide ((v : Int) < (R.length : Int)) = false := by simp; omega
                have HX : Hid (evStep R (2, (v : Int)) (P, n) = (upd P n 0, n + 1)) := by
                  show evStep _ _ _ = _
                  unfold evStep
                  rw [if_neg (show ¬ (2 : Int) = 3 by decide), if_neg (show ¬ (2 : Int) = 1 by decide)]
                  have : R.getD ((2, (v : Int)) : Int × Int).2.toNat 0 = 0 := by
                    rw [List.getD_eq_getElem?_getD, List.getElem?_eq_none (by simpa using hr)]; rfl
                  rw [this]
                go_wp2_with fail
                go_roundw
                case rel =>
                  refine ⟨k + 1, n + 1, hlt, HN2.out, by congr 1; omega, by go_num, ?_, ?_, ?_⟩
                  · rw [HE.out, HX.out]
                    exact Lib.hid ((HPA.out.set n _).alloc _)
                  · exact Lib.hid ((HOA.out.set (by omega) _ _).alloc _)
                  · exact (hbe.setCell HPB _).alloc (hbe.setCell HPB _).size _
                case measure => simp [intOf]; omega
      · have hdk : decide ((k : Int) < (L.length : Int)) = false := by simp; omega
        have e : k = L.length := by omega
        subst e
        have hp1 := HPA.out.ci 0 (by decide)
        go_wp2_with fail
        go_ret
        exact ⟨rfl, hbe⟩
end Go.Proofs.YtcmjmojbocmcgaaDoor
