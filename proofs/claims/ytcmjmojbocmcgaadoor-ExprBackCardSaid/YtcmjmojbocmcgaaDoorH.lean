import Derived.Test.YtcmjmojbocmcgaaDoorG
namespace Go.Proofs.YtcmjmojbocmcgaaDoor
open Go.RowKit ExprA
namespace ExprA
def icells (l : List (Int × Int)) : List Value := l.flatMap fun p => [.int .i64 p.1, .int .i64 p.2]
theorem icells_len (l : List (Int × Int)) : (icells l).length = l.length * 2 := by
  induction l with
  | nil => rfl
  | cons p l ih =>
    show (_ :: _ :: icells l).length = _
    rw [List.length_cons, List.length_cons, ih, List.length_cons]; omega
theorem icells_get (l : List (Int × Int)) (i : Nat) (hi : i < l.length) : (icells l)[i * 2]? = some (.int .i64 (l.getD i (0, 0)).1) ∧ (icells l)[i * 2 + 1]? = some (.int .i64 (l.getD i (0, 0)).2) := by
  induction l generalizing i with
  | nil => simp at hi
  | cons p l ih =>
    cases i with
    | zero => exact ⟨rfl, rfl⟩
    | succ i =>
      have := ih i (by simpa using hi)
      have e1 : (i + 1) * 2 = i * 2 + 2 := by omega
      rw [e1]
      exact this
theorem icells_snoc (l : List (Int × Int)) (p : Int × Int) : icells (l ++ [p]) = icells l ++ [.int .i64 p.1, .int .i64 p.2] := by
  unfold icells; rw [List.flatMap_append]; rfl
theorem tin_own {w : World} {base : Nat} {pa : Option Addr} {c : Nat} {T : List (Int × Int)} (h : w.ownsRow base 34 2 (.slice pa T.length c) T.length (icells T)) : TIn w pa T := by
  obtain ⟨_, ⟨hv, h0⟩ | ⟨g, cap, cur, hv, hg, hcur, hc1, hc2, hc3, hc4⟩⟩ := h
  · exact .inl (List.length_eq_zero_iff.1 h0)
  · simp only [Value.slice.injEq] at hv
    obtain ⟨rfl, _, rfl⟩ := hv
    refine .inr ⟨g, 0, rfl, (Array.getElem?_eq_some_iff.1 hcur).1, fun i hi => ?_⟩
    have hget : ∀ j, j < T.length * 2 → w.cell? ⟨g, j, none⟩ = (icells T)[j]? := by
      intro j hj
      rw [cell_of_row w g j cur _ _ hcur, ← hc4, List.getElem?_take, if_pos hj]
      simp
    have hp := icells_get T i hi
    rw [Nat.zero_add, hget _ (by omega), hget _ (by omega)]
    exact hp
def piecesB (s : ByteArray) : List ByteArray := Lib.splitB ⟨#[32]⟩ 0 (min 10 (s.size + 1) - 1) s
theorem split_small (k : Nat) : ∀ (s x : ByteArray), x ∈ Lib.splitB ⟨#[32]⟩ 0 k s → x.size ≤ s.size := by
  induction k with
  | zero => intro s x h; simp [Lib.splitB] at h; rw [h]; exact Nat.le_refl _
  | succ k ih =>
    intro s x h
    unfold Lib.splitB at h
    split at h
    · simp at h; rw [h]; exact Nat.le_refl _
    · rcases List.mem_cons.1 h with rfl | h
      · rw [ByteArray.size_extract]; omega
      · have h1 := ih _ _ h
        rw [ByteArray.size_extract] at h1
        omega
theorem pieces_len (s : ByteArray) : (piecesB s).length ≤ 10 := by
  have := Lib.splitB_length_le ⟨#[32]⟩ 0 (min 10 (s.size + 1) - 1) s
  unfold piecesB; omega
def readTo (l : List ByteArray) : Nat → Option (List (Int × Int))
  | 0 => some []
  | k + 1 => (readTo l k).bind fun T => (readW (l.getD k ⟨#[]⟩)).map fun p => T ++ [p]
theorem readTo_none {l : List ByteArray} {k : Nat} (h : readTo l k = none) (j : Nat) : readTo l (k + j) = none := by
  induction j with
  | zero => exact h
  | succ j ih => show (readTo l (k + j)).bind _ = none; rw [ih]; rfl
theorem readTo_len {l : List ByteArray} {k : Nat} {T : List (Int × Int)} (h : readTo l k = some T) : T.length = k := by
  induction k generalizing T with
  | zero => simp only [readTo, Option.some.injEq] at h; rw [← h]; rfl
  | succ k ih =>
    simp only [readTo, Option.bind_eq_some_iff, Option.map_eq_some_iff] at h
    obtain ⟨T', h1, p, _, rfl⟩ := h
    rw [List.length_append, ih h1]; rfl
/-- an expression's words, read -/
def parseB (s : ByteArray) : Option (List (Int × Int)) :=
  (readTo (piecesB s) (piecesB s).length).bind fun T => if checkB T = true ∧ (⟨(textL T).toArray⟩ : ByteArray) = s then some T else none
def parsed (s : ByteArray) (e : Ending) (w' : World) : Prop :=
  match parseB s with
  | some T => ∃ a c, e = .returned (.tuple #[.slice a T.length c, .bool true]) ∧ TIn w' a T
  | none => e = .returned (.tuple #[.slice none 0 0, .bool false])
def LenIn (w : World) : Prop := ∃ m, w.cell? ⟨0, 0, none⟩ = some (.int .i64 m)
theorem readTo_get {l : List ByteArray} {k : Nat} {T : List (Int × Int)} (h : readTo l k = some T) {p : Int × Int} (hp : readW (l.getD k ⟨#[]⟩) = some p) : readTo l (k + 1) = some (T ++ [p]) := by
  show (readTo l k).bind _ = _
  rw [h]; show (readW (l.getD k ⟨#[]⟩)).map _ = _
  rw [hp]; rfl
theorem readTo_bad {l : List ByteArray} {k : Nat} {T : List (Int × Int)} (h : readTo l k = some T) (hk : k < l.length) (hp : readW (l.getD k ⟨#[]⟩) = none) : readTo l l.length = none := by
  have h1 : readTo l (k + 1) = none := by
    show (readTo l k).bind _ = _
    rw [h]; show (readW (l.getD k ⟨#[]⟩)).map _ = _
    rw [hp]; rfl
  have h2 := readTo_none h1 (l.length - (k + 1))
  rwa [show k + 1 + (l.length - (k + 1)) = l.length by omega] at h2
end ExprA
set_option maxRecDepth 100000 in
set_option maxHeartbeats 8000000 in
theorem parse_any (s : ByteArray) (hs : s.size ≤ 1000) (w : World) (he : ErrIn w) (ht : PowTab w) (hm : LenIn w) :
    Calls Tryd.prog 9 #[.string s] w fun e w' => parsed s e w' ∧ Below w.heap.size w w' := by
  obtain ⟨m, hm⟩ := hm
  have HSP := Lib.hid (Tryd.strings_SplitN s ⟨#[32]⟩ 10 m w (by omega) hm (by decide) (by decide) (by decide))
  have hsl0 : ∀ o : Obj, w.heap.size < (w.alloc o).heap.size := fun o => by simp
  have HB1 : Hid (∀ o, Below w.heap.size w (w.alloc o)) := Lib.hid (fun o => (Below.refl _ _).alloc (Nat.le_refl _) o)
  have hpl := pieces_len s
  have HPS : Hid (∀ x ∈ piecesB s, x.size ≤ 1000) := Lib.hid (fun x hx => Nat.le_trans (split_small _ s x hx) hs)
  have HPI : Hid (∀ j, j < (piecesB s).length → (w.alloc (.cells (Lib.cellsOf (piecesB s) (min 10 (s.size + 1))) 9 (0, 0))).cell? ⟨w.heap.size, j, none⟩ = some (.string ((piecesB s).getD j ⟨#[]⟩))) := Lib.hid (fun j hj => by
    rw [cell_of_row _ _ _ _ _ _ (heap_alloc_new _ _)]
    unfold Lib.cellsOf
    simp [List.getElem?_append, hj])
  have HPB : Hid (parseB s = (readTo (piecesB s) (piecesB s).length).bind fun T => if checkB T = true ∧ (⟨(textL T).toArray⟩ : ByteArray) = s then some T else none) := Lib.hid rfl
  have HSP2 : Hid (Calls Tryd.prog 21 #[.string s, .string ⟨#[32]⟩, .int .i64 10] w fun e w' => e = .returned (.slice (some ⟨w.heap.size, 0, none⟩) (piecesB s).length (min 10 (s.size + 1))) ∧ w' = w.alloc (.cells (Lib.cellsOf (piecesB s) (min 10 (s.size + 1))) 9 (0, 0))) := HSP
  have hcap : min 10 (s.size + 1) ≤ 10 := by omega
  clear hm HSP
  generalize min 10 (s.size + 1) = cp at *
  obtain ⟨i0, hi, hz0, hz1, hz2⟩ := info_parts info34
  have HER := Lib.hid he
  have HTR := Lib.hid ht
  clear he ht
  go_enter Tryd.func9, Tryd.ntmps9
  go_wp2_with fail
  refine HSP2.out.mono ?_
  rintro e w1 ⟨rfl, hw1⟩
  rw [← hw1] at HPI
  have HB1 : Hid (Below w.heap.size w w1) := Lib.hid (by rw [hw1]; exact HB1.out _)
  have hsl : w.heap.size < w1.heap.size := by rw [hw1]; exact hsl0 _
  clear hw1 HSP2 hsl0
  generalize piecesB s = l at *
  go_wp2_with fail
  go_loopw [4, 12] (fun v x wr => ∃ (q : Nat) (T : List (Int × Int)), q ≤ l.length ∧ x = .int .i64 q ∧ T.length = q ∧ readTo l q = some T ∧ wr.ownsRow w1.heap.size 34 2 v q (icells T) ∧ Below w1.heap.size w1 wr) (fun _ x _ => l.length - (intOf x).toNat)
  case atStart => exact ⟨0, [], Nat.zero_le _, rfl, rfl, rfl, ⟨rfl, .inl ⟨rfl, rfl⟩⟩, Below.refl _ _⟩
  case round =>
    obtain ⟨q, T, hq, rfl, hTl, hrd, hown, hbe⟩ := hrel
    have hsz := hbe.size
    obtain ⟨pa0, pc0, rfl⟩ := own_len hown
    have HOWN := Lib.hid hown
    clear hown
    have HBW : Hid (Below w.heap.size w wr) := Lib.hid (HB1.out.trans (hbe.mono HB1.out.size))
    have hqi9 : (q : Int) ≤ 10 := by omega
    have hslr : w.heap.size < wr.heap.size := by omega
    by_cases hlt : q < l.length
    · have hdk : decide ((q : Int) < (l.length : Int)) = true := by simp; omega
      have hqi : (q : Int) < (l.length : Int) := by omega
      have hpc : wr.cell? ⟨w.heap.size, q, none⟩ = some (.string (l.getD q ⟨#[]⟩)) := (hbe.cell (p := ⟨w.heap.size, q, none⟩) (by show w.heap.size < _; omega)).trans (HPI.out q hlt)
      have HRB := Lib.hid (fun h => readTo_bad hrd hlt h)
      have HRG := Lib.hid (fun p h => readTo_get (p := p) hrd h)
      have HRW := Lib.hid (readW_any (l.getD q ⟨#[]⟩) (HPS.out _ (by
        have e7 : l.getD q ⟨#[]⟩ = l[q] := by simp [hlt]
        rw [e7]; exact List.getElem_mem hlt)) wr (HER.out.next HBW.out))
      generalize l.getD q ⟨#[]⟩ = pw at *
      cases hrw : readW pw with
      | none =>
        have HPN : Hid (parseB s = none) := Lib.hid (by rw [HPB.out, HRB.out hrw]; rfl)
        rw [hrw] at HRW
        clear HRB HRG HPB HPI HPS
        unfold readV at HRW
        go_wp2_with fail
        refine HRW.out.mono ?_
        rintro e w3 ⟨rfl, hb3⟩
        go_wp2_with fail
        go_ret2
        refine ⟨?_, ?_⟩
        · unfold parsed; rw [HPN.out]; try rfl
        · exact (below_next HBW.out hb3).alloc (Nat.le_trans HBW.out.size hb3.size) _
      | some pp =>
        have HRT := Lib.hid (HRG.out pp hrw)
        rw [hrw] at HRW
        clear HRB HRG hrw
        obtain ⟨tk, tv⟩ := pp
        unfold readV at HRW
        go_wp2_with fail
        refine HRW.out.mono ?_
        rintro e w3 ⟨rfl, hb3⟩
        have HO3 := Lib.hid (own_below HOWN.out hb3)
        have HB3 : Hid (Below w1.heap.size w1 w3) := Lib.hid (below_next hbe hb3)
        clear hb3 HOWN hbe HBW
        have hsz3 : w1.heap.size ≤ w3.heap.size := HB3.out.size
        go_wp2_with (first | (at_builtin; refine wpList_append_own _ rfl (.tmp 23) (.tmp 25) 24 rfl w1.heap.size 34 i0 (.agg #[.int .i64 0, .int .i64 0]) 2 16 Tryd.underlying24 hi hz0 hz1 hz2 rfl (by decide) _ _ _ rfl ((HO3.out.alloc _).alloc _) ⟨w3.heap.size + 1, 0, none⟩ 1 1 [.int .i64 tk, .int .i64 tv] rfl rfl (World.news_of_block (cs := #[.int .i64 tk, .int .i64 tv]) (t := 34) (fr := (0, 0)) (heap_alloc2_new w3 _ _)) (by simp [Value.oneCell']) (by unfold maxLen; omega) (by omega) (by simp; omega) ?_; intro v1 w4 hown1 hgrow1 hnil1; have HO4 := Lib.hid hown1; have HG4 := Lib.hid hgrow1; clear hown1 hgrow1 hnil1))
        go_roundw
        case rel =>
          refine ⟨q + 1, T ++ [(tk, tv)], hlt, by go_num, by simp [hTl], HRT.out, ?_, ?_⟩
          · rw [icells_snoc]; exact HO4.out
          · exact ((HB3.out.alloc hsz3 _).alloc (by simp; omega) _).grown HG4.out (by simp; omega) (fun j hj => (HO3.out.lt j hj).1)
        case measure => simp [intOf]; omega
    · have hdk : decide ((q : Int) < (l.length : Int)) = false := by simp; omega
      have e : q = l.length := by omega
      subst hTl
      have HTIN : Hid (TIn wr pa0 T) := Lib.hid (tin_own HOWN.out)
      rw [← e, hrd] at HPB
      have HPB2 : Hid (parseB s = if checkB T = true ∧ (⟨(textL T).toArray⟩ : ByteArray) = s then some T else none) := HPB
      have HCK := Lib.hid (check_any pa0 T pc0 wr HTIN.out)
      have HTX := Lib.hid (fun w5 (hb : Below wr.heap.size wr w5) => text_any pa0 T pc0 w5 (HTIN.out.next hb) (HTR.out.next (below_next HBW.out hb)))
      have hdk2 : decide (T.length < l.length) = false := by simp; omega
      clear HPB HPI HPS HOWN hbe hrd e hq hlt hqi9 hpl hsz hsl hslr HB1 hcap
      cases hck : checkB T with
      | false =>
        rw [hck] at HCK HPB2
        have HPN : Hid (parseB s = none) := Lib.hid (by rw [HPB2.out]; simp)
        clear HPB2 HTX
        go_wp2_with fail
        refine HCK.out.mono ?_
        rintro e w5 ⟨rfl, hb5⟩
        go_wp2_with fail
        go_ret2
        refine ⟨?_, ?_⟩
        · unfold parsed; rw [HPN.out]; try rfl
        · exact below_next HBW.out hb5
      | true =>
        rw [hck] at HCK HPB2
        by_cases htx : (⟨(textL T).toArray⟩ : ByteArray) = s
        · have HPN : Hid (parseB s = some T) := Lib.hid (by rw [HPB2.out, if_pos ⟨rfl, htx⟩])
          rw [htx] at HTX
          clear HPB2
          go_wp2_with fail
          refine HCK.out.mono ?_
          rintro e w5 ⟨rfl, hb5⟩
          go_wp2_with fail
          refine (HTX.out w5 hb5).mono ?_
          rintro e w6 ⟨rfl, hb6⟩
          have hne : (s.toList != s.toList) = false := by simp
          go_wp2_with fail
          go_ret2
          have hbb := below_next hb5 hb6
          refine ⟨?_, ?_⟩
          · unfold parsed; rw [HPN.out]
            exact ⟨_, _, rfl, HTIN.out.next hbb⟩
          · exact below_next HBW.out hbb
        · have HPN : Hid (parseB s = none) := Lib.hid (by rw [HPB2.out, if_neg (fun h => htx h.2)])
          clear HPB2
          have hne : ((⟨(textL T).toArray⟩ : ByteArray).toList == s.toList) = false := by
            rw [beq_eq_false_iff_ne]
            intro h
            exact htx (ByteArray.ext (Array.ext' (by rw [ByteArray.toList_eq, ByteArray.toList_eq] at h; exact h)))
          generalize (⟨(textL T).toArray⟩ : ByteArray) = tt at *
          go_wp2_with fail
          refine HCK.out.mono ?_
          rintro e w5 ⟨rfl, hb5⟩
          go_wp2_with fail
          refine (HTX.out w5 hb5).mono ?_
          rintro e w6 ⟨rfl, hb6⟩
          go_wp2_with fail
          go_ret2
          have hbb := below_next hb5 hb6
          refine ⟨?_, ?_⟩
          · unfold parsed; rw [HPN.out]; try rfl
          · exact below_next HBW.out hbb
end Go.Proofs.YtcmjmojbocmcgaaDoor
