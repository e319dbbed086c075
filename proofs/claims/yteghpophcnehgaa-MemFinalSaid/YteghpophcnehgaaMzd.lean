/-
  What the functions that the law reaches do, one by one: contracts. Conditions: those that each of them prints.
-/
import Derived.Test.YteghpophcnehgaaMzc
namespace Go.Proofs.Yteghpophcnehgaa
open Go.RowKit ExprA SndA
set_option maxRecDepth 100000 in
set_option maxHeartbeats 16000000 in
theorem rvals_any (th:Th) (vd:Value) (D:List Int) (w:World) (hth:ThG w th) (hd:LV w vd D) (hD:D.length≤1000) :
  Calls Try.prog 19 #[th.v,vd] w fun e w'=>(∃ v L vs,e=.returned v∧LB w.heap.size w' v L vs∧(∀ l ∈ L,l.length≤3)∧L.length≤20001)∧Below w.heap.size w w':=by
 have HTH:=Lib.hid hth
 have HD:=Lib.hid hd
 have h3:=hth.len
 obtain ⟨ta,tL,tc⟩:=th
 unfold Th.v
 dsimp only at *
 clear hth hd
 go_enter Try.func19,Try.ntmps19
 go_wp2_with fail
 refine (domain_any _ D w HD.out hD).mono ?_
 rintro e w1 ⟨⟨v1,M,rfl,hv1,hM⟩,hb1⟩
 have HV1:=Lib.hid hv1
 have HB1:=Lib.hid hb1
 clear hv1 hb1
 go_wp2_with fail
 refine (rvalues_any 4 ⟨ta,tL,tc⟩ M [] v1 (.slice none 0 0) (.slice none 0 0) [] [] w1 w1 (HTH.out.next HB1.out) HV1.out (Below.refl _ _) hM (LV.nil _) (head_nil _) (Nat.zero_le _) (by simp; omega) (LB.nil _ _) (fun l hl=>by cases hl) (by simp)).mono ?_
 rintro e w2 ⟨v2,rfl,L,vs,hL,hl3,hn,hf,_⟩
 have HL:=Lib.hid hL
 have HL3:=Lib.hid hl3
 have HB2:Hid (Below w1.heap.size w1 w2):=Lib.hid (hf.below (fun b _ q=>by cases q) (Nat.le_refl _))
 clear hL hl3 hf
 go_wp2_with fail
 go_ret
 exact ⟨⟨_,L,vs,rfl,⟨own_lower HL.out.own HB1.out.size,HL.out.len,HL.out.el⟩,HL3.out,hn⟩,below_next HB1.out HB2.out⟩
end Go.Proofs.Yteghpophcnehgaa
