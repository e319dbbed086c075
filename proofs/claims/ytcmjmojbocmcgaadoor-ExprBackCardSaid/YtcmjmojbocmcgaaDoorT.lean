import Derived.Test.YtcmjmojbocmcgaaDoorS
import Derived.Test.YtcmjmojbocmcgaaDoorO
namespace Go.Proofs.YtcmjmojbocmcgaaDoor
open Go.RowKit ExprA
namespace ExprA
theorem parse_all (s : ByteArray) (hs : s.size ≤ 1000) (w0 w : World) (h : LBel w0 w) : Calls Tryd.prog 9 #[.string s] w fun e w' => parsed s e w' ∧ LBel w0 w' :=
  (parse_any s hs w h.lib.1 h.lib.2.1 h.lib.2.2).mono fun _ _ ⟨h1, h2⟩ => ⟨h1, h.next h2⟩
theorem parsed_some {s : ByteArray} {T : List (Int × Int)} {e : Ending} {w : World} (h : parsed s e w) (hp : parseB s = some T) : ∃ a c, e = .returned (.tuple #[.slice a T.length c, .bool true]) ∧ TIn w a T := by
  unfold parsed at h; rw [hp] at h; exact h
theorem parsed_none {s : ByteArray} {e : Ending} {w : World} (h : parsed s e w) (hp : parseB s = none) : e = .returned (.tuple #[.slice none 0 0, .bool false]) := by
  unfold parsed at h; rw [hp] at h; exact h
end ExprA
set_option maxRecDepth 100000 in
set_option maxHeartbeats 16000000 in
theorem back_any (a : Option Addr) (R : List Int) (c : Nat) (s : ByteArray) (w : World) (h : LibIn w) (hN : NIn w a R) :
    Calls Tryd.prog 3 #[.slice a R.length c, .string s] w fun e w' => e = .returned (.bool true) ∧ Below w.heap.size w w' := by
  have HL : Hid (LBel w w) := Lib.hid ⟨h, Below.refl _ _⟩
  have HN := Lib.hid hN
  clear h hN
  by_cases hR : 20 < R.length
  · have hi : (20 : Int) < (R.length : Int) := by omega
    have hd : decide ((20 : Int) < (R.length : Int)) = true := by simp; omega
    go_enter Tryd.func3, Tryd.ntmps3
    go_wp2_with fail
    refine (awake_any _ HL.out.lib).mono ?_
    rintro e w1 ⟨rfl, hb⟩
    go_wp2_with fail
    go_ret
    exact ⟨rfl, hb⟩
  · have hi : ¬ (20 : Int) < (R.length : Int) := by omega
    have hd : decide ((20 : Int) < (R.length : Int)) = false := by simp; omega
    by_cases hS : 200 < s.size
    · have hi2 : (200 : Int) < (s.size : Int) := by omega
      have hd2 : decide ((200 : Int) < (s.size : Int)) = true := by simp; omega
      go_enter Tryd.func3, Tryd.ntmps3
      go_wp2_with fail
      refine (awake_any _ HL.out.lib).mono ?_
      rintro e w1 ⟨rfl, hb⟩
      go_wp2_with fail
      go_ret
      exact ⟨rfl, hb⟩
    · have hi2 : ¬ (200 : Int) < (s.size : Int) := by omega
      have hd2 : decide ((200 : Int) < (s.size : Int)) = false := by simp; omega
      have hs1 : s.size ≤ 1000 := by omega
      have HW := Lib.hid (wide_any a R c w HN.out (by omega))
      go_enter Tryd.func3, Tryd.ntmps3
      go_wp2_with fail
      refine HW.out.mono ?_
      rintro e w1 ⟨pa, T, pc, rfl, hT, hck, hb1⟩
      have HT1 := Lib.hid hT
      have HL1 := Lib.hid (HL.out.next hb1)
      have HCK := Lib.hid hck
      clear hT hck hb1 HW HN HL
      go_wp2_with fail
      refine (text_any pa T pc w1 HT1.out HL1.out.lib.2.1).mono ?_
      rintro e w2 ⟨rfl, hb2⟩
      have HT2 := Lib.hid (HT1.out.next hb2)
      have HL2 := Lib.hid (HL1.out.next hb2)
      clear hb2 HT1 HL1
      have HPT := Lib.hid (parse_all ⟨(textL T).toArray⟩ (text_size HCK.out) w w2 HL2.out)
      have HB2 : Hid (Calls Tryd.prog 9 #[.string ⟨(textL T).toArray⟩] w2 fun e w' => (∃ a c, e = .returned (.tuple #[.slice a T.length c, .bool true]) ∧ TIn w' a T) ∧ LibIn w' ∧ Below w2.heap.size w2 w') := Lib.hid
        ((parse_any ⟨(textL T).toArray⟩ (text_size HCK.out) w2 HL2.out.lib.1 HL2.out.lib.2.1 HL2.out.lib.2.2).mono fun _ _ ⟨h1, h2⟩ => ⟨parsed_some h1 (read_text HCK.out), HL2.out.lib.next h2, h2⟩)
      have h9 := (check_pos HCK.out).2
      generalize (⟨(textL T).toArray⟩ : ByteArray) = tt at *
      go_wp2_with fail
      refine HB2.out.mono ?_
      rintro e w3 ⟨⟨a3, c3, rfl, hT3⟩, hl3, hb3⟩
      have HF3 := Lib.hid hT3
      have HT3 := Lib.hid (HT2.out.next hb3)
      have HL3 := Lib.hid (HL2.out.next hb3)
      clear hT3 hl3 hb3 HT2 HL2 HPT HB2
      go_wp2_with fail
      refine (check_any pa T pc w3 HT3.out).mono ?_
      rw [HCK.out]
      rintro e w4 ⟨rfl, hb4⟩
      have HF4 := Lib.hid (HF3.out.next hb4)
      have HT4 := Lib.hid (HT3.out.next hb4)
      have HL4 := Lib.hid (HL3.out.next hb4)
      clear hb4 HF3 HT3 HL3
      go_wp2_with fail
      refine (same_any pa a3 T pc c3 w4 HT4.out HF4.out h9).mono ?_
      rintro e w5 ⟨rfl, hb5⟩
      have HL5 := Lib.hid (HL4.out.next hb5)
      clear hb5 HF4 HT4 HL4 h9 HCK
      have HPS := Lib.hid (parse_all s hs1 w w5 HL5.out)
      go_wp2_with fail
      refine HPS.out.mono ?_
      rintro e w6 ⟨hp6, hl6⟩
      have HL6 := Lib.hid hl6
      cases hps : parseB s with
      | none =>
        obtain rfl := parsed_none hp6 hps
        clear hp6 hps hl6 HPS
        go_wp2_with fail
        refine (awake_any _ HL6.out.lib).mono ?_
        rintro e w7 ⟨rfl, hb7⟩
        go_wp2_with fail
        go_ret
        exact ⟨rfl, (HL6.out.next hb7).bel⟩
      | some T2 =>
        obtain ⟨a6, c6, rfl, hT6⟩ := parsed_some hp6 hps
        have HT6 := Lib.hid hT6
        have HPP := Lib.hid (parse_some hps)
        have hlt := (check_pos HPP.out.1).1
        have hli : (0 : Int) < (T2.length : Int) := by omega
        have hld : decide ((0 : Int) < (T2.length : Int)) = true := by simp; omega
        clear hp6 hps hl6 HPS hT6
        go_wp2_with fail
        refine (text_any a6 T2 c6 w6 HT6.out HL6.out.lib.2.1).mono ?_
        rw [HPP.out.2]
        rintro e w7 ⟨rfl, hb7⟩
        have HT7 := Lib.hid (HT6.out.next hb7)
        have HL7 := Lib.hid (HL6.out.next hb7)
        have hee : (s.toList == s.toList) = true := by simp
        clear hb7
        go_wp2_with fail
        refine (check_any a6 T2 c6 w7 HT7.out).mono ?_
        rw [HPP.out.1]
        rintro e w8 ⟨rfl, hb8⟩
        have HL8 := Lib.hid (HL7.out.next hb8)
        clear hb8
        go_wp2_with fail
        refine (awake_any _ HL8.out.lib).mono ?_
        rintro e w9 ⟨rfl, hb9⟩
        go_wp2_with fail
        go_ret
        exact ⟨rfl, (HL8.out.next hb9).bel⟩
theorem back_all (a : Option Addr) (R : List Int) (c : Nat) (s : ByteArray) (w : World) (h : LibIn w) (hN : NIn w a R) (_h1 : In64s R) (_h2 : s.size ≤ maxLen) :
    Calls Tryd.prog 3 #[.slice a R.length c, .string s] w fun e w' => e = .returned (.bool true) ∧ Below w.heap.size w w' := back_any a R c s w h hN
end Go.Proofs.YtcmjmojbocmcgaaDoor
