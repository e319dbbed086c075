/-
  What the functions that the law reaches do, one by one: contracts. Conditions: those that each of them prints.
-/
import Derived.Test.YteghpophcnehgaaMc
namespace Go.Proofs.Yteghpophcnehgaa
open Go.RowKit ExprA SndA
namespace SndA
def wordB (k v:Int):Bool:=if k=1 then decide (-2147483648≤v) && decide (v≤2147483647) else if k=2 then decide (0≤v) && decide (v < 8) else if k=3 then decide (1≤v) && decide (v≤6) else false
theorem okTok_word {p:Int × Int} {n:Nat} (h:wordB p.1 p.2=false):okTok p n=none:=by
 obtain ⟨k,v⟩:=p
 unfold wordB at h
 unfold okTok
 dsimp only at h ⊢
 by_cases h1:k=1
 ·subst h1
  simp only [if_true,Bool.and_eq_false_iff,decide_eq_false_iff_not] at h
  rw [if_neg (by omega),if_neg (by omega),if_neg (by omega)]
 ·rw [if_neg h1] at h
  by_cases h2:k=2
  ·subst h2
   simp only [if_true,Bool.and_eq_false_iff,decide_eq_false_iff_not] at h
   rw [if_neg (by omega),if_neg (by omega),if_neg (by omega)]
  ·rw [if_neg h2] at h
   by_cases h3:k=3
   ·subst h3
    simp only [if_true,Bool.and_eq_false_iff,decide_eq_false_iff_not] at h
    rw [if_neg (by omega),if_neg (by omega),if_neg (by omega)]
   ·rw [if_neg (by omega),if_neg (by omega),if_neg (by omega)]
theorem okTok_yes {k v:Int} {n:Nat} (h:wordB k v=true):okTok (k,v) n=if k=3 then (if 2≤n then some (n - 1) else none) else some (n + 1):=by
 unfold wordB at h
 unfold okTok
 dsimp only
 by_cases h1:k=1
 ·subst h1
  simp only [if_true,Bool.and_eq_true,decide_eq_true_eq] at h
  rw [if_pos (by omega),if_neg (by decide)]
 ·rw [if_neg h1] at h
  by_cases h2:k=2
  ·subst h2
   simp only [if_true,Bool.and_eq_true,decide_eq_true_eq] at h
   rw [if_neg (by omega),if_pos (by omega),if_neg (by decide)]
  ·rw [if_neg h2] at h
   by_cases h3:k=3
   ·subst h3
    simp only [if_true,Bool.and_eq_true,decide_eq_true_eq] at h
    rw [if_neg (by omega),if_neg (by omega),if_pos rfl]
    by_cases g:2≤n
    ·rw [if_pos ⟨rfl,h.1,h.2,g⟩,if_pos g]
    ·rw [if_neg (fun x=>g x.2.2.2),if_neg g]
   ·rw [if_neg h3] at h; cases h
end SndA
set_option maxRecDepth 100000 in
set_option maxHeartbeats 8000000 in
theorem rword_any (k v:Int) (w:World):Calls Try.prog 73 #[.agg #[.int .i64 k,.int .i64 v]] w fun e w'=>e=.returned (.bool (wordB k v))∧Below w.heap.size w w':=by
 unfold wordB
 by_cases h1:k=1
 ·subst h1
  rw [if_pos rfl]
  cases hA:decide (-2147483648≤v) with
  | false=>
   go_enter Try.func73,Try.ntmps73
   go_wp2_with fail
   go_ret
   exact ⟨rfl,(Below.refl _ _).alloc (Nat.le_refl _) _⟩
  | true=>
   cases hB:decide (v≤2147483647) with
   | false=>
    go_enter Try.func73,Try.ntmps73
    go_wp2_with fail
    go_ret
    exact ⟨rfl,(Below.refl _ _).alloc (Nat.le_refl _) _⟩
   | true=>
    go_enter Try.func73,Try.ntmps73
    go_wp2_with fail
    go_ret
    exact ⟨rfl,(Below.refl _ _).alloc (Nat.le_refl _) _⟩
 ·have k1:(k == 1)=false:=by simp [h1]
  rw [if_neg h1]
  by_cases h2:k=2
  ·subst h2
   rw [if_pos rfl]
   clear h1 k1
   cases hA:decide (0≤v) with
   | false=>
    go_enter Try.func73,Try.ntmps73
    go_wp2_with fail
    go_ret
    exact ⟨rfl,(Below.refl _ _).alloc (Nat.le_refl _) _⟩
   | true=>
    cases hB:decide (v < 8) with
    | false=>
     go_enter Try.func73,Try.ntmps73
     go_wp2_with fail
     go_ret
     exact ⟨rfl,(Below.refl _ _).alloc (Nat.le_refl _) _⟩
    | true=>
     go_enter Try.func73,Try.ntmps73
     go_wp2_with fail
     go_ret
     exact ⟨rfl,(Below.refl _ _).alloc (Nat.le_refl _) _⟩
  ·have k2:(k == 2)=false:=by simp [h2]
   rw [if_neg h2]
   by_cases h3:k=3
   ·subst h3
    rw [if_pos rfl]
    clear h1 k1 h2 k2
    cases hA:decide (1≤v) with
    | false=>
     go_enter Try.func73,Try.ntmps73
     go_wp2_with fail
     go_ret
     exact ⟨rfl,(Below.refl _ _).alloc (Nat.le_refl _) _⟩
    | true=>
     cases hB:decide (v≤6) with
     | false=>
      go_enter Try.func73,Try.ntmps73
      go_wp2_with fail
      go_ret
      exact ⟨rfl,(Below.refl _ _).alloc (Nat.le_refl _) _⟩
     | true=>
      go_enter Try.func73,Try.ntmps73
      go_wp2_with fail
      go_ret
      exact ⟨rfl,(Below.refl _ _).alloc (Nat.le_refl _) _⟩
   ·have k3:(k == 3)=false:=by simp [h3]
    rw [if_neg h3]
    clear h1 h2 h3
    go_enter Try.func73,Try.ntmps73
    go_wp2_with fail
    go_ret
    exact ⟨rfl,(Below.refl _ _).alloc (Nat.le_refl _) _⟩
end Go.Proofs.Yteghpophcnehgaa
namespace Go.Proofs.Yteghpophcnehgaa
open Go.RowKit ExprA SndA
set_option maxRecDepth 100000 in
set_option maxHeartbeats 16000000 in
theorem rcheck_any (a:Option Addr) (L:List (Int × Int)) (c:Nat) (w:World) (h:TIn w a L) (hL:L.length≤100) :
  Calls Try.prog 46 #[.slice a L.length c] w fun e w'=>e=.returned (.bool (checkB L))∧Below w.heap.size w w':=by
 have HI:=Lib.hid h
 have hLi:(L.length:Int)≤100:=by omega
 clear h
 go_enter Try.func46,Try.ntmps46
 go_wp2_with fail
 go_loopw [3,4] (fun d x wr=>∃ q D:Nat,q≤L.length∧D≤q∧x=.int .i64 (q:Int)∧d=.int .i64 (D:Int)∧Hid (chkTo L q=some D)∧Below w.heap.size w wr) (fun _ x _=>L.length - (intOf x).toNat)
 case atStart=>exact ⟨0,0,Nat.zero_le _,Nat.le_refl _,rfl,rfl,Lib.hid rfl,Below.refl _ _⟩
 case round=>
  obtain ⟨q,D,hq,hDq,rfl,rfl,HCH,hbe⟩:=hrel
  have HBE:=Lib.hid hbe
  clear hbe
  have hqi:(q:Int)≤100:=by omega
  have hDi:(D:Int)≤100:=by omega
  by_cases hlt:q < L.length
  ·have d1:decide ((q:Int) < (L.length:Int))=true:=by rw [decide_eq_true_iff]; omega
   have i1:(q:Int) < (L.length:Int):=by omega
   rcases HI.out.next HBE.out with h0 | ⟨b,o,rfl,hbl,hcc⟩
   ·rw [h0] at hlt; simp at hlt
   ·obtain ⟨c0,c1⟩:=hcc q hlt
    clear hcc
    have HBAD:Hid (okTok (L.getD q (0,0)) D=none→checkB L=false):=Lib.hid (fun hb=>checkB_bad hlt HCH.out hb)
    have HSTEP:Hid (∀ Q,okTok (L.getD q (0,0)) D=some Q→chkTo L (q + 1)=some Q):=Lib.hid (fun Q hb=>chk_step HCH.out hb)
    generalize L.getD q (0,0)=pp at *
    obtain ⟨pk,pv⟩:=pp
    dsimp only at c0 c1
    have HW:=Lib.hid (rword_any pk pv wr)
    cases hwb:wordB pk pv with
    | false=>
     have HF:Hid (checkB L=false):=Lib.hid (HBAD.out (okTok_word hwb))
     rw [hwb] at HW
     clear hwb HBAD HSTEP HCH
     go_wp2_with fail
     refine HW.out.mono ?_
     rintro e w1 ⟨rfl,hb1⟩
     have HB1:=Lib.hid (below_next HBE.out hb1)
     clear hb1
     go_wp2_with fail
     go_ret
     rw [HF.out]
     exact ⟨rfl,HB1.out⟩
    | true=>
     have HY:Hid (okTok (pk,pv) D=if pk=3 then (if 2≤D then some (D - 1) else none) else some (D + 1)):=Lib.hid (okTok_yes hwb)
     rw [hwb] at HW
     clear hwb
     by_cases h3:pk=3
     ·have k3:(pk != 3)=false:=by simp [h3]
      by_cases h2:2≤D
      ·have g2:decide ((D:Int) < 2)=false:=by rw [decide_eq_false_iff_not]; omega
       have g2i:¬ (D:Int) < 2:=by omega
       have g3i:(2:Int)≤(D:Int):=by omega
       have HN:Hid (chkTo L (q + 1)=some (D - 1)):=Lib.hid (HSTEP.out _ (by rw [HY.out,if_pos h3,if_pos h2]))
       clear h3 h2 HBAD HSTEP HCH HY
       go_wp2_with fail
       refine HW.out.mono ?_
       rintro e w1 ⟨rfl,hb1⟩
       have HB1:=Lib.hid (below_next HBE.out hb1)
       have c2:=cell_next c0 hb1
       clear hb1 c0 c1
       go_wp2_with fail
       go_roundw
       case rel=>exact ⟨q + 1,D - 1,hlt,by omega,by go_num,by congr 1; omega,HN,HB1.out⟩
       case measure=>simp [intOf]; omega
      ·have g2:decide ((D:Int) < 2)=true:=by rw [decide_eq_true_iff]; omega
       have g2i:(D:Int) < 2:=by omega
       have HF:Hid (checkB L=false):=Lib.hid (HBAD.out (by rw [HY.out,if_pos h3,if_neg h2]))
       clear h3 h2 HBAD HSTEP HCH HY
       go_wp2_with fail
       refine HW.out.mono ?_
       rintro e w1 ⟨rfl,hb1⟩
       have HB1:=Lib.hid (below_next HBE.out hb1)
       have c2:=cell_next c0 hb1
       clear hb1 c0 c1
       go_wp2_with fail
       go_ret
       rw [HF.out]
       exact ⟨rfl,HB1.out⟩
     ·have k3:(pk != 3)=true:=by simp [h3]
      have HN:Hid (chkTo L (q + 1)=some (D + 1)):=Lib.hid (HSTEP.out _ (by rw [HY.out,if_neg h3]))
      clear h3 HBAD HSTEP HCH HY
      go_wp2_with fail
      refine HW.out.mono ?_
      rintro e w1 ⟨rfl,hb1⟩
      have HB1:=Lib.hid (below_next HBE.out hb1)
      have c2:=cell_next c0 hb1
      clear hb1 c0 c1
      go_wp2_with fail
      go_roundw
      case rel=>exact ⟨q + 1,D + 1,hlt,by omega,by go_num,by go_num,HN,HB1.out⟩
      case measure=>simp [intOf]; omega
  ·have d1:decide ((q:Int) < (L.length:Int))=false:=by rw [decide_eq_false_iff_not]; omega
   have i1:¬ (q:Int) < (L.length:Int):=by omega
   have HE:Hid (checkB L=(decide (L.length≤9) && decide (D=1))):=Lib.hid (by
    unfold checkB
    have e:q=L.length:=by omega
    have:=HCH.out
    rw [e] at this
    rw [this]
    by_cases g:D=1 <;> simp [g])
   clear HCH
   by_cases hD:D=1
   ·have g1:((D:Int) == 1)=true:=by simp [hD]
    by_cases h9:L.length≤9
    ·have g9:decide ((L.length:Int)≤9)=true:=by rw [decide_eq_true_iff]; omega
     have g9i:(L.length:Int)≤9:=by omega
     have HR:Hid (checkB L=true):=Lib.hid (by rw [HE.out]; simp [hD,h9])
     clear hD h9 HE
     go_wp2_with fail
     go_ret
     rw [HR.out]
     exact ⟨rfl,HBE.out⟩
    ·have g9:decide ((L.length:Int)≤9)=false:=by rw [decide_eq_false_iff_not]; omega
     have g9i:¬ (L.length:Int)≤9:=by omega
     have HR:Hid (checkB L=false):=Lib.hid (by rw [HE.out]; simp [hD,h9])
     clear hD h9 HE
     go_wp2_with fail
     go_ret
     rw [HR.out]
     exact ⟨rfl,HBE.out⟩
   ·have g1:((D:Int) == 1)=false:=by rw [beq_eq_false_iff_ne]; omega
    have HR:Hid (checkB L=false):=Lib.hid (by rw [HE.out]; simp [hD])
    clear hD HE
    go_wp2_with fail
    go_ret
    rw [HR.out]
    exact ⟨rfl,HBE.out⟩
end Go.Proofs.Yteghpophcnehgaa
namespace Go.Proofs.Yteghpophcnehgaa
open Go.RowKit ExprA SndA
namespace SndA
def opV (op a b:Int):Int:=if op=1 then wrap64 (a + b) else if op=2 then wrap64 (a - b) else if op=3 then wrap64 (a * b) else if op=4 then bits .xor .i64 a b else if op=5 then (if a=b then 1 else 0) else if op=6 then (if a < b then 1 else 0) else 0
end SndA
set_option maxRecDepth 100000 in
set_option maxHeartbeats 8000000 in
theorem rdo_any (op a b:Int) (w:World):Calls Try.prog 76 #[.int .i64 op,.int .i64 a,.int .i64 b] w fun e w'=>e=.returned (.int .i64 (opV op a b))∧w=w':=by
 by_cases h1:op=1
 ·subst h1
  have HV:Hid (opV 1 a b=wrap64 (a + b)):=Lib.hid (by rfl)
  go_enter Try.func76,Try.ntmps76
  go_wp2_with fail
  go_ret
  rw [HV.out]
  first | exact ⟨rfl,rfl⟩ | exact ⟨by rw [wrapI],rfl⟩ | exact ⟨by congr 2; rw [wrapI],rfl⟩
 ·have k1:(op == 1)=false:=by simp [h1]
  by_cases h2:op=2
  ·subst h2
   have HV:Hid (opV 2 a b=wrap64 (a - b)):=Lib.hid (by rfl)
   clear h1 k1
   go_enter Try.func76,Try.ntmps76
   go_wp2_with fail
   go_ret
   rw [HV.out]
   first | exact ⟨rfl,rfl⟩ | exact ⟨by rw [wrapI],rfl⟩ | exact ⟨by congr 2; rw [wrapI],rfl⟩
  ·have k2:(op == 2)=false:=by simp [h2]
   by_cases h3:op=3
   ·subst h3
    have HV:Hid (opV 3 a b=wrap64 (a * b)):=Lib.hid (by rfl)
    clear h1 k1 h2 k2
    go_enter Try.func76,Try.ntmps76
    go_wp2_with fail
    go_ret
    rw [HV.out]
    first | exact ⟨rfl,rfl⟩ | exact ⟨by rw [wrapI],rfl⟩ | exact ⟨by congr 2; rw [wrapI],rfl⟩
   ·have k3:(op == 3)=false:=by simp [h3]
    by_cases h4:op=4
    ·subst h4
     have HV:Hid (opV 4 a b=bits .xor .i64 a b):=Lib.hid (by rfl)
     clear h1 k1 h2 k2 h3 k3
     go_enter Try.func76,Try.ntmps76
     go_wp2_with fail
     go_ret
     rw [HV.out]
     first | exact ⟨rfl,rfl⟩ | exact ⟨by rw [wrapI],rfl⟩ | exact ⟨by congr 2; rw [wrapI],rfl⟩
    ·have k4:(op == 4)=false:=by simp [h4]
     by_cases h5:op=5
     ·subst h5
      clear h1 k1 h2 k2 h3 k3 h4 k4
      by_cases g:a=b
      ·have HV:Hid (opV 5 a b=1):=Lib.hid (by show (if a=b then (1:Int) else 0)=_; rw [if_pos g])
       have g2:(a == b)=true:=by simp [g]
       clear g
       go_enter Try.func76,Try.ntmps76
       go_wp2_with fail
       go_ret
       rw [HV.out]
       exact ⟨rfl,rfl⟩
      ·have HV:Hid (opV 5 a b=0):=Lib.hid (by show (if a=b then (1:Int) else 0)=_; rw [if_neg g])
       have g2:(a == b)=false:=by simp [g]
       clear g
       go_enter Try.func76,Try.ntmps76
       go_wp2_with fail
       go_ret
       rw [HV.out]
       exact ⟨rfl,rfl⟩
     ·have k5:(op == 5)=false:=by simp [h5]
      by_cases h6:op=6
      ·subst h6
       clear h1 k1 h2 k2 h3 k3 h4 k4 h5 k5
       by_cases g:a < b
       ·have HV:Hid (opV 6 a b=1):=Lib.hid (by show (if a < b then (1:Int) else 0)=_; rw [if_pos g])
        have g2:decide (a < b)=true:=by simp [g]
        go_enter Try.func76,Try.ntmps76
        go_wp2_with fail
        go_ret
        rw [HV.out]
        exact ⟨rfl,rfl⟩
       ·have HV:Hid (opV 6 a b=0):=Lib.hid (by show (if a < b then (1:Int) else 0)=_; rw [if_neg g])
        have g2:decide (a < b)=false:=by simp [g]
        go_enter Try.func76,Try.ntmps76
        go_wp2_with fail
        go_ret
        rw [HV.out]
        exact ⟨rfl,rfl⟩
      ·have k6:(op == 6)=false:=by simp [h6]
       have HV:Hid (opV op a b=0):=Lib.hid (by unfold opV; rw [if_neg h1,if_neg h2,if_neg h3,if_neg h4,if_neg h5,if_neg h6])
       clear h1 h2 h3 h4 h5 h6
       go_enter Try.func76,Try.ntmps76
       go_wp2_with fail
       go_ret
       rw [HV.out]
       exact ⟨rfl,rfl⟩
end Go.Proofs.Yteghpophcnehgaa
