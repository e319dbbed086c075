import Derived.Test.YtcmjmojbocmcgaaDoorE
import Derived.OwnWalk
import Derived.Laws.AppendOwn
import Derived.Deep.AppendLies
namespace Go.Proofs.YtcmjmojbocmcgaaDoor
open Go.RowKit ExprA
namespace ExprA
theorem own_len {w : World} {base e size : Nat} {v : Value} {n : Nat} {xs : List Value} (h : w.ownsRow base e size v n xs) : ∃ pa c, v = .slice pa n c := by
  rcases h.2 with ⟨rfl, rfl⟩ | ⟨g, cap, cur, rfl, _⟩
  · exact ⟨none, 0, rfl⟩
  · exact ⟨_, cap, rfl⟩
def scells (l : List (List UInt8)) : List Value := l.map fun x => .string ⟨x.toArray⟩
theorem scells_snoc (l : List (List UInt8)) (x : List UInt8) : scells (l ++ [x]) = scells l ++ [.string ⟨x.toArray⟩] := by unfold scells; rw [List.map_append]; rfl
theorem info9 : (Tryd.prog.info? 9).map (fun i => (i.zero, i.size, i.bytes)) = some (some (.string ⟨#[]⟩), 1, 16) := by kernel_rfl
theorem info34 : (Tryd.prog.info? 34).map (fun i => (i.zero, i.size, i.bytes)) = some (some (.agg #[.int .i64 0, .int .i64 0]), 2, 16) := by kernel_rfl
/-- a program's expression as a text -/
def textL (L : List (Int × Int)) : List UInt8 := if checkB L then Lib.join (L.map wordL) [32] else []
theorem wordsTo_succ (L : List (Int × Int)) (k : Nat) (h : k < L.length) : (L.take (k + 1)).map wordL = (L.take k).map wordL ++ [wordL (L.getD k (0, 0))] := by
  rw [List.take_succ_eq_append_getElem h, List.map_append]
  simp [h]
theorem checkB_tok {L : List (Int × Int)} (h : checkB L = true) {k : Nat} (hk : k < L.length) : ∃ n n2, chkTo L k = some n ∧ okTok (L.getD k (0, 0)) n = some n2 := by
  have hall : ∀ j, j ≤ L.length → ∃ n, chkTo L j = some n := by
    intro j hj
    cases hc : chkTo L j with
    | some n => exact ⟨n, rfl⟩
    | none =>
      have := chkTo_none hc (L.length - j)
      rw [show j + (L.length - j) = L.length by omega] at this
      unfold checkB at h
      rw [this] at h
      simp at h
  obtain ⟨n, hn⟩ := hall k (by omega)
  obtain ⟨n2, hn2⟩ := hall (k + 1) (by omega)
  refine ⟨n, n2, hn, ?_⟩
  have h3 : (chkTo L k).bind (okTok (L.getD k (0, 0))) = some n2 := hn2
  rw [hn] at h3
  exact h3
theorem okTok_wide {p : Int × Int} {n n2 : Nat} (h : okTok p n = some n2) : (p.1 = 3 → 1 ≤ p.2 ∧ p.2 ≤ 6) ∧ -2147483648 ≤ p.2 ∧ p.2 ≤ 2147483647 := by
  unfold okTok at h
  split at h
  · omega
  · split at h
    · omega
    · split at h
      · omega
      · simp at h
theorem wordL_len {p : Int × Int} (h0 : -2147483648 ≤ p.2) (h1 : p.2 ≤ 2147483647) : (wordL p).length ≤ 22 := by
  have := Lib.itoa_length_le p.2 (by omega) (by omega)
  unfold wordL
  split
  · simp
  · split
    · simp; omega
    · omega
theorem lens_le (l : List (List UInt8)) (h : ∀ x ∈ l, x.length ≤ 22) : Lib.lens l ≤ l.length * 22 := by
  induction l with
  | nil => simp [Lib.lens]
  | cons x r ih =>
    have h1 := h x (by simp)
    have h2 := ih (fun y hy => h y (by simp [hy]))
    simp only [Lib.lens, List.map_cons, List.sum_cons, List.length_cons] at h2 ⊢
    omega
theorem join_len (l : List (List UInt8)) (h : ∀ x ∈ l, x.length ≤ 22) : (Lib.join l [32]).length ≤ l.length * 23 := by
  cases l with
  | nil => simp [Lib.join_nil]
  | cons x r =>
    have h1 := lens_le (x :: r) h
    rw [Lib.join_length]
    simp only [List.length_cons, List.length_nil] at h1 ⊢
    omega
theorem own_below {w w' : World} {B e size n : Nat} {v : Value} {xs : List Value} (h : w.ownsRow B e size v n xs) (hb : Below w.heap.size w w') : w'.ownsRow B e size v n xs := by
  have hg : w.grownBy w' none := ⟨hb.os, hb.tape, hb.output, hb.size, fun k hk _ => hb.block k hk⟩
  refine h.kept hg ?_
  cases v.ownBlock with
  | none => exact .inl rfl
  | some g => exact .inr (by simp)
/-- strings.Join of what the call itself laid -/
theorem join_own (base : Nat) (pa : Option Addr) (c : Nat) (l : List (List UInt8)) (w : World) (h : w.ownsRow base 9 1 (.slice pa l.length c) l.length (scells l)) (hl : l.length ≤ 9) (hx : ∀ x ∈ l, x.length ≤ 22) :
    Calls Tryd.prog 24 #[.slice pa l.length c, .string ⟨#[32]⟩] w fun e w' => e = .returned (.string ⟨(Lib.join l [32]).toArray⟩) ∧ Below w.heap.size w w' := by
  have hjl := join_len l hx
  obtain ⟨_, ⟨hv, h0⟩ | ⟨g, cap, cur, hv, hg, hcur, hc1, hc2, hc3, hc4⟩⟩ := h
  · have hl0 : l = [] := List.length_eq_zero_iff.1 h0
    subst hl0
    refine (Tryd.strings_Join_none pa c ⟨#[32]⟩ w).mono ?_
    rintro e w' ⟨rfl, rfl⟩
    exact ⟨rfl, Below.refl _ _⟩
  · simp only [Value.slice.injEq] at hv
    obtain ⟨rfl, _, rfl⟩ := hv
    have HJ := Tryd.strings_Join g 0 c (l.map fun x => ⟨x.toArray⟩) ⟨#[32]⟩ w (fun j x hj => by
      have hjl2 : j < l.length := by
        have := (List.getElem?_eq_some_iff.1 hj).1
        simpa using this
      rw [Nat.zero_add, cell_of_row w g j cur _ _ hcur]
      have h5 : (cur.toList.take (l.length * 1))[j]? = (scells l)[j]? := by rw [hc4]
      rw [List.getElem?_take, if_pos (by omega)] at h5
      rw [← Array.getElem?_toList, h5]
      unfold scells
      rw [List.getElem?_map] at hj ⊢
      rw [List.getElem?_eq_getElem hjl2] at hj ⊢
      simp only [Option.map_some, Option.some.injEq] at hj ⊢
      rw [← hj]) (Array.getElem?_eq_some_iff.1 hcur).1 (by simp; omega) (by simpa using hc1) (by simpa [Function.comp_def] using (by omega : (Lib.join l [32]).length ≤ 140737488355328))
    rw [List.length_map] at HJ
    refine HJ.mono ?_
    rintro e w' ⟨rfl, hb⟩
    refine ⟨?_, hb⟩
    simp [Function.comp_def]
end ExprA
set_option maxRecDepth 100000 in
set_option maxHeartbeats 1600000 in
theorem text_any (a : Option Addr) (L : List (Int × Int)) (c : Nat) (w : World) (h : TIn w a L) (ht : PowTab w) :
    Calls Tryd.prog 10 #[.slice a L.length c] w fun e w' => e = .returned (.string ⟨(textL L).toArray⟩) ∧ Below w.heap.size w w' := by
  have HI := Lib.hid h
  have HT := Lib.hid ht
  have HC := Lib.hid (check_any a L c w h)
  clear h ht
  cases hck : checkB L with
  | false =>
    rw [hck] at HC
    have hr : textL L = [] := by unfold textL; rw [hck]; rfl
    rw [hr]
    go_enter Tryd.func10, Tryd.ntmps10
    go_wp2_with fail
    refine HC.out.mono ?_
    rintro e w1 ⟨rfl, hbe⟩
    go_wp2_with fail
    go_ret
    exact ⟨rfl, hbe⟩
  | true =>
    rw [hck] at HC
    have hr : textL L = Lib.join (L.map wordL) [32] := by unfold textL; rw [hck]; rfl
    rw [hr]
    have hl9 : L.length ≤ 9 := by
      have h2 := hck
      unfold checkB at h2
      simp at h2
      exact h2.1
    have HK := Lib.hid (fun k (hk : k < L.length) => by
      obtain ⟨n, n2, _, h2⟩ := checkB_tok hck hk
      exact okTok_wide h2)
    obtain ⟨i0, hi, hz0, hz1, hz2⟩ := info_parts info9
    go_enter Tryd.func10, Tryd.ntmps10
    go_wp2_with fail
    refine HC.out.mono ?_
    rintro e w1 ⟨rfl, hbe1⟩
    have HB1 := Lib.hid hbe1
    clear hbe1 HC
    go_wp2_with fail
    go_loopw [3, 11] (fun v x wr => ∃ q : Nat, q ≤ L.length ∧ x = .int .i64 q ∧ wr.ownsRow w.heap.size 9 1 v q (scells ((L.take q).map wordL)) ∧ Below w.heap.size w wr) (fun _ x _ => L.length - (intOf x).toNat)
    case atStart => exact ⟨0, Nat.zero_le _, rfl, ⟨rfl, .inl ⟨rfl, rfl⟩⟩, HB1.out⟩
    case round =>
      obtain ⟨q, hq, rfl, hown, hbe⟩ := hrel
      have hsz := hbe.size
      obtain ⟨pa0, pc0, rfl⟩ := own_len hown
      have HOWN := Lib.hid hown
      clear hown
      have hqi9 : (q : Int) ≤ 9 := by omega
      by_cases hlt : q < L.length
      · have hdk : decide ((q : Int) < (L.length : Int)) = true := by simp; omega
        have hqi : (q : Int) < (L.length : Int) := by omega
        rcases HI.out.next hbe with h0 | ⟨b, o, rfl, hbl, hcc⟩
        · rw [h0] at hlt; simp at hlt
        · have hc1 := (hcc q hlt).1
          have hc2 := (hcc q hlt).2
          clear hcc
          have HW := Lib.hid (wordsTo_succ L q hlt)
          obtain ⟨hk1, hk2, hk3⟩ := HK.out q hlt
          generalize L.getD q (0, 0) = pp at *
          have HWC := Lib.hid (fun o => word_any pp hk1 (by omega) (by omega) (wr.alloc o) (PowTab.next HT.out (hbe.alloc hsz o)))
          clear hk1 hk2 hk3
          generalize wordL pp = wl at *
          obtain ⟨tk, tv⟩ := pp
          simp only at hc1 hc2
          go_wp2_with fail
          refine (HWC.out _).mono ?_
          rintro e w3 ⟨rfl, hbe3⟩
          have HB3 := Lib.hid (below_next (hbe.alloc hsz _) hbe3)
          have HO3 := Lib.hid (own_below (HOWN.out.alloc (.cells #[.int .i64 tk, .int .i64 tv] 34 (0, 0))) hbe3)
          clear hbe3 HOWN
          have hsz3 : w.heap.size ≤ w3.heap.size := HB3.out.size
          go_wp2_with (first
            | (at_builtin; refine wpList_append_own _ rfl (.tmp 15) (.tmp 18) 43 rfl w.heap.size 9 i0 (.string ⟨#[]⟩) 1 16 Tryd.underlying43 hi hz0 hz1 hz2 rfl (by decide) _ _ _ rfl (HO3.out.alloc _) ⟨w3.heap.size, 0, none⟩ 1 1 [.string ⟨wl.toArray⟩] rfl rfl (World.news_of_block (cs := #[.string ⟨wl.toArray⟩]) (t := 9) (fr := (0, 0)) (heap_alloc_new w3 _)) (by simp [Value.oneCell']) (by unfold maxLen; omega) (by omega) (by simp; omega) ?_; intro v1 w4 hown1 hgrow1 hnil1; have HO4 := Lib.hid hown1; have HG4 := Lib.hid hgrow1; clear hown1 hgrow1 hnil1))
          go_roundw
          case rel =>
            refine ⟨q + 1, hlt, by go_num, ?_, ?_⟩
            · rw [HW.out, scells_snoc]; exact HO4.out
            · exact (HB3.out.alloc hsz3 _).grown HG4.out (by simp; omega) (fun j hj => (HO3.out.lt j hj).1)
          case measure => simp [intOf]; omega
      · have hdk : decide ((q : Int) < (L.length : Int)) = false := by simp; omega
        have e : q = L.length := by omega
        subst e
        have HJ := Lib.hid (join_own w.heap.size pa0 pc0 (L.map wordL) wr (by
          have h5 := HOWN.out
          rw [List.take_length] at h5
          simpa using h5) (by simpa using hl9) (fun x hx => by
            obtain ⟨p, hp, rfl⟩ := List.mem_map.1 hx
            obtain ⟨k, hk, rfl⟩ := List.getElem_of_mem hp
            have h6 := HK.out k hk
            have e7 : L.getD k (0, 0) = L[k] := by simp [hk]
            rw [e7] at h6
            exact wordL_len h6.2.1 h6.2.2))
        rw [List.length_map] at HJ
        have HB := Lib.hid hbe
        clear HOWN hbe
        go_wp2_with fail
        refine HJ.out.mono ?_
        rintro e w5 ⟨rfl, hb5⟩
        go_wp2_with fail
        go_ret
        exact ⟨rfl, below_next HB.out hb5⟩
end Go.Proofs.YtcmjmojbocmcgaaDoor
