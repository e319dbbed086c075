import Derived.Test.YtcmjmojbocmcgaaDoorD
import Derived.Test.YtcmjmojbocmcgaaDoorH
namespace Go.Proofs.YtcmjmojbocmcgaaDoor
open Go.RowKit ExprA
namespace ExprA
def egB : ByteArray := ⟨#[114, 49, 32, 49, 32, 43]⟩
def egT : List (Int × Int) := [(2, 1), (1, 1), (3, 1)]
theorem eg_read : parseB egB = some egT := by kernel_rfl
theorem eg_text : (⟨(textL egT).toArray⟩ : ByteArray) = egB := by kernel_rfl
theorem eg_check : checkB egT = true := by kernel_rfl
theorem eg_eval : evalB egT [0, 5] = 6 := by kernel_rfl
/-- what the library's variables hold -/
def LibIn (w : World) : Prop := ErrIn w ∧ PowTab w ∧ LenIn w
theorem LenIn.next {w w' : World} (h : LenIn w) (he : ErrIn w) (hb : Below w.heap.size w w') : LenIn w' := by
  obtain ⟨m, h⟩ := h
  exact ⟨m, (hb.cell (p := ⟨0, 0, none⟩) (by show 0 < _; have := he.2.2; omega)).trans h⟩
theorem LibIn.next {w w' : World} (h : LibIn w) (hb : Below w.heap.size w w') : LibIn w' := ⟨h.1.next hb, h.2.1.next hb, h.2.2.next h.1 hb⟩
/-- a world behind another: the library's variables hold, nothing old has turned -/
structure LBel (w0 w : World) : Prop where
  lib : LibIn w
  bel : Below w0.heap.size w0 w
theorem LBel.next {w0 w w' : World} (h : LBel w0 w) (hb : Below w.heap.size w w') : LBel w0 w' := ⟨h.lib.next hb, below_next h.bel hb⟩
theorem LBel.drew {w0 w : World} (h : LBel w0 w) : LBel w0 w.drew := h.next (bel_drewN w 1)
end ExprA
set_option maxRecDepth 100000 in
set_option maxHeartbeats 4000000 in
theorem awake_any (w : World) (h : LibIn w) :
    Calls Tryd.prog 7 #[] w fun e w' => e = .returned (.bool true) ∧ Below w.heap.size w w' := by
  have HL := Lib.hid h
  clear h
  have HP := Lib.hid (parse_any egB (by decide) w HL.out.1 HL.out.2.1 HL.out.2.2)
  have HX : Hid (∀ e w', parsed egB e w' → ∃ a c, e = .returned (.tuple #[.slice a 3 c, .bool true]) ∧ TIn w' a egT) := Lib.hid (fun e w' h => by
    unfold parsed at h; rw [eg_read] at h; exact h)
  unfold egB at HP
  go_enter Tryd.func7, Tryd.ntmps7
  go_wp2_with fail
  refine HP.out.mono ?_
  rintro e w1 ⟨hp, hb1⟩
  obtain ⟨a, c, rfl, hT⟩ := HX.out _ _ hp
  have HT := Lib.hid hT
  have HB1 := Lib.hid hb1
  clear hp hT hb1 HX
  have hsz1 := HB1.out.size
  go_wp2_with fail
  refine (eval_any a egT c (some ⟨w1.heap.size, 0, none⟩) [0, 5] 2 _ (HT.out.next ((Below.refl _ _).alloc (Nat.le_refl _) _)) (.inr ⟨w1.heap.size, 0, rfl, by simp, fun i hi => by
    rw [cell_of_row _ _ _ _ _ _ (heap_alloc_new _ _)]
    match i, hi with
    | 0, _ => rfl
    | 1, _ => rfl⟩)).mono ?_
  rw [eg_eval]
  rintro e w2 ⟨rfl, hb2⟩
  have HB2 := Lib.hid (below_next ((Below.refl _ _).alloc (Nat.le_refl _) _) hb2)
  clear hb2
  go_wp2_with fail
  refine (text_any a egT c w2 (HT.out.next HB2.out) (HL.out.next (below_next HB1.out HB2.out)).2.1).mono ?_
  rw [eg_text]
  rintro e w3 ⟨rfl, hb3⟩
  have HB3 := Lib.hid (below_next HB2.out hb3)
  clear hb3
  unfold egB
  go_wp2_with fail
  refine (check_any a egT c w3 (HT.out.next HB3.out)).mono ?_
  rw [eg_check]
  rintro e w4 ⟨rfl, hb4⟩
  go_wp2_with fail
  go_ret
  exact ⟨rfl, below_next HB1.out (below_next HB3.out hb4)⟩
end Go.Proofs.YtcmjmojbocmcgaaDoor
