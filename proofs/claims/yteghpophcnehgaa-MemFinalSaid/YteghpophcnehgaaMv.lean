/-
  What the functions that the law reaches do, one by one: contracts. Conditions: those that each of them prints.
-/
import Derived.Test.YteghpophcnehgaaMh
import Derived.Test.YteghpophcnehgaaMu
namespace Go.Proofs.Yteghpophcnehgaa
open Go.RowKit ExprA SndA
namespace SndA
def SaysB (e:Ending):Prop:=∃ b,e=.returned (.bool b)
end SndA
set_option maxRecDepth 100000 in
set_option maxHeartbeats 16000000 in
theorem rsame_any (a a2:Option Addr) (L L2:List (Int × Int)) (c c2:Nat) (w:World) (h:TIn w a L) (h2:TIn w a2 L2) (hL:L.length≤100) (hL2:L2.length≤100) :
  Calls Try.prog 75 #[.slice a L.length c,.slice a2 L2.length c2] w fun e w'=>SaysB e∧Below w.heap.size w w':=by
 have HI:=Lib.hid h
 have HI2:=Lib.hid h2
 have hLi:(L.length:Int)≤100:=by omega
 have hLi2:(L2.length:Int)≤100:=by omega
 clear h h2
 by_cases hn:L.length=L2.length
 ·have n1:((L.length:Int) != (L2.length:Int))=false:=by simp [hn]
  go_enter Try.func75,Try.ntmps75
  go_wp2_with fail
  go_loopw [5] (fun x wr=>∃ q:Nat,q≤L.length∧x=.int .i64 (q:Int)∧Below w.heap.size w wr) (fun x _=>L.length - (intOf x).toNat)
  case atStart=>exact ⟨0,Nat.zero_le _,rfl,Below.refl _ _⟩
  case round=>
   obtain ⟨q,hq,rfl,hbe⟩:=hrel
   have HBE:=Lib.hid hbe
   clear hbe
   have hqi:(q:Int)≤100:=by omega
   by_cases hlt:q < L.length
   ·have d1:decide ((q:Int) < (L.length:Int))=true:=by rw [decide_eq_true_iff]; omega
    have i1:(q:Int) < (L.length:Int):=by omega
    have i2:(q:Int) < (L2.length:Int):=by omega
    have hlt2:q < L2.length:=by omega
    rcases HI.out.next HBE.out with h0 | ⟨b,o,rfl,hbl,hcc⟩
    ·rw [h0] at hlt; simp at hlt
    rcases HI2.out.next HBE.out with h0 | ⟨b2,o2,rfl,hbl2,hcc2⟩
    ·rw [h0] at hlt2; simp at hlt2
    obtain ⟨c0,c1⟩:=hcc q hlt
    obtain ⟨e0,e1⟩:=hcc2 q hlt2
    clear hcc hcc2
    generalize L.getD q (0,0)=pp at *
    obtain ⟨pk,pv⟩:=pp
    generalize L2.getD q (0,0)=rr at *
    obtain ⟨rk,rv⟩:=rr
    dsimp only at c0 c1 e0 e1
    by_cases hk:pk=rk
    ·have k1:(pk != rk)=false:=by simp [hk]
     by_cases hv:pv=rv
     ·have k2:(pv != rv)=false:=by simp [hv]
      clear hk hv
      go_wp2_with fail
      go_quiet (fail)
      go_wp2_with fail
      go_roundw
      case rel=>exact ⟨q + 1,hlt,by go_num,below_next HBE.out (bel_drewN _ _)⟩
      case measure=>simp [intOf]; omega
     ·have k2:(pv != rv)=true:=by simp [hv]
      clear hk hv
      go_wp2_with fail
      go_quiet (fail)
      go_wp2_with fail
      go_ret
      exact ⟨⟨_,rfl⟩,below_next HBE.out (bel_drewN _ _)⟩
    ·have k1:(pk != rk)=true:=by simp [hk]
     clear hk
     go_wp2_with fail
     go_quiet (fail)
     go_wp2_with fail
     go_ret
     exact ⟨⟨_,rfl⟩,below_next HBE.out (bel_drewN _ _)⟩
   ·have d1:decide ((q:Int) < (L.length:Int))=false:=by rw [decide_eq_false_iff_not]; omega
    have i1:¬ (q:Int) < (L.length:Int):=by omega
    go_wp2_with fail
    go_ret
    exact ⟨⟨_,rfl⟩,HBE.out⟩
 ·have n1:((L.length:Int) != (L2.length:Int))=true:=by simp; omega
  go_enter Try.func75,Try.ntmps75
  go_wp2_with fail
  go_ret
  exact ⟨⟨_,rfl⟩,Below.refl _ _⟩
end Go.Proofs.Yteghpophcnehgaa
namespace Go.Proofs.Yteghpophcnehgaa
open Go.RowKit ExprA SndA
namespace SndA
theorem runU_mono (L:List Ins) (rd:List Int):∀ (f k u:Nat) (rg:List Int),u≤(runU L rd f k u rg).2
 | 0,_,_,_=>Nat.le_refl _
 | f + 1,k,u,rg=>by
  unfold runU
  have ih:=runU_mono L rd f
  split
  ·split
   ·split
    ·exact Nat.le_trans (Nat.le_succ u) (ih (k + 1) (u + 1) _)
    ·exact Nat.le_refl _
   ·split
    ·exact ih _ _ _
    ·split
     ·exact ih _ _ _
     ·exact ih _ _ _
  ·exact Nat.le_refl _
theorem runU_le (L:List Ins) (rd:List Int):∀ (f k u:Nat) (rg:List Int),u≤rd.length→(runU L rd f k u rg).2≤rd.length
 | 0,_,_,_,h=>h
 | f + 1,k,u,rg,h=>by
  unfold runU
  have ih:=runU_le L rd f
  split
  ·split
   ·split
    ·rename_i q; exact ih _ _ _ q
    ·exact h
   ·split
    ·exact ih _ _ _ h
    ·split
     ·exact ih _ _ _ h
     ·exact ih _ _ _ h
  ·exact h
theorem runU_short (L:List Ins) (rd:List Int):∀ (f k u:Nat) (rg:List Int),u≤rd.length→(runU L rd f k u rg).1=true→(runU L rd f k u rg).2=rd.length∧rd.length < u + f
 | 0,_,_,_,_,g=>by cases g
 | f + 1,k,u,rg,h,g=>by
  unfold runU at g ⊢
  have ih:=runU_short L rd f
  split at g
  ·rename_i q0
   rw [if_pos q0]
   split at g
   ·rename_i q1
    rw [if_pos q1]
    split at g
    ·rename_i q2
     rw [if_pos q2]
     obtain ⟨a,b⟩:=ih _ _ _ q2 g
     exact ⟨a,by omega⟩
    ·rename_i q2
     rw [if_neg q2]
     exact ⟨by show u=_; omega,by omega⟩
   ·rename_i q1
    rw [if_neg q1]
    split at g
    ·rename_i q2
     rw [if_pos q2]
     obtain ⟨a,b⟩:=ih _ _ _ h g
     exact ⟨a,by omega⟩
    ·rename_i q2
     rw [if_neg q2]
     split at g
     ·rename_i q3
      rw [if_pos q3]
      obtain ⟨a,b⟩:=ih _ _ _ h g
      exact ⟨a,by omega⟩
     ·rename_i q3
      rw [if_neg q3]
      obtain ⟨a,b⟩:=ih _ _ _ h g
      exact ⟨a,by omega⟩
  ·cases g
theorem getD_app {l:List Int} {v:Int} {u:Nat} (h:u < l.length):(l ++ [v]).getD u 0=l.getD u 0:=by
 rw [List.getD_eq_getElem?_getD,List.getD_eq_getElem?_getD,List.getElem?_append_left h]
theorem runU_next (L:List Ins) (rd:List Int) (v:Int):∀ (f k u:Nat) (rg:List Int),u≤rd.length→(runU L rd f k u rg).1=true→(runU L (rd ++ [v]) f k u rg).2=rd.length + 1
 | 0,_,_,_,_,g=>by cases g
 | f + 1,k,u,rg,h,g=>by
  have hl:(rd ++ [v]).length=rd.length + 1:=by simp
  unfold runU at g ⊢
  have ih:=runU_next L rd v f
  split at g
  ·rename_i q0
   rw [if_pos q0]
   split at g
   ·rename_i q1
    rw [if_pos q1]
    split at g
    ·rename_i q2
     rw [if_pos (show u < (rd ++ [v]).length by omega),getD_app q2]
     exact ih _ _ _ q2 g
    ·rename_i q2
     rw [if_pos (show u < (rd ++ [v]).length by omega)]
     have a:=runU_mono L (rd ++ [v]) f (k + 1) (u + 1) (rg.set (L.getD k Ins.zero).r.toNat ((rd ++ [v]).getD u 0))
     have b:=runU_le L (rd ++ [v]) f (k + 1) (u + 1) (rg.set (L.getD k Ins.zero).r.toNat ((rd ++ [v]).getD u 0)) (by omega)
     omega
   ·rename_i q1
    rw [if_neg q1]
    split at g
    ·rename_i q2
     rw [if_pos q2]
     exact ih _ _ _ h g
    ·rename_i q2
     rw [if_neg q2]
     split at g
     ·rename_i q3
      rw [if_pos q3]
      exact ih _ _ _ h g
     ·rename_i q3
      rw [if_neg q3]
      exact ih _ _ _ h g
  ·cases g
def HeadOk (L:List Ins) (h:List Int):Prop:=(doU L h).2=h.length
theorem head_nil (L:List Ins):HeadOk L []:=Nat.le_zero.1 (runU_le L [] _ _ _ _ (Nat.le_refl _))
theorem head_short {L:List Ins} {h:List Int} (g:(doU L h).1=true):h.length < L.length:=by
 have:=(runU_short L h L.length 0 0 _ (Nat.zero_le _) g).2
 omega
theorem head_next {L:List Ins} {h:List Int} (g:(doU L h).1=true) (v:Int):HeadOk L (h ++ [v]):=by
 unfold HeadOk
 rw [show (h ++ [v]).length=h.length + 1 by simp]
 exact runU_next L h v L.length 0 0 _ (Nat.zero_le _) g
theorem good_eok {T:List (Int × Int)} (h:GoodE T):EOk T:=by
 obtain ⟨x,b,hx,hb,h⟩:=h
 unfold EOk
 rcases h with h | h | h | h | h | h <;> subst h <;> refine ⟨by simp,fun y hy=>?_⟩ <;> simp only [List.mem_cons,List.mem_nil_iff,Prod.mk.injEq,or_false] at hy <;> omega
theorem gi_ok {left:Nat} {i:Ins} (h:GI left i) (hl:left≤1000):InsOk i:=by
 unfold InsOk
 rcases h with h | h | h | h | h | h
 ·exact .inl ⟨h.1,h.2.2.2.1.1,by have:=h.2.2.2.1.2; omega⟩
 ·exact .inr (.inl ⟨h.1,good_eok h.2.2.2.2.2.2⟩)
 ·exact .inr (.inr (.inl h.1))
 ·obtain ⟨h1,_,_,⟨h4,h5⟩,_,_,b,hb,hE⟩:=h
  exact .inr (.inr (.inr (.inl ⟨h1,⟨h4,by omega⟩,by rw [hE]; exact ⟨by simp,fun y hy=>by simp at hy⟩⟩)))
 ·exact .inr (.inr (.inr (.inr (.inl ⟨h.1,⟨h.2.2.2.1.1,by have:=h.2.2.2.1.2; omega⟩,good_eok h.2.2.2.2.2.2⟩))))
 ·exact .inr (.inr (.inr (.inr (.inr ⟨h.1,⟨h.2.2.2.2.2.1.1,by have:=h.2.2.2.2.2.1.2; omega⟩,good_eok h.2.2.2.2.2.2⟩))))
end SndA
end Go.Proofs.Yteghpophcnehgaa
namespace Go.Proofs.Yteghpophcnehgaa
open Go.RowKit ExprA SndA
set_option maxRecDepth 100000 in
set_option maxHeartbeats 16000000 in
theorem uses_any (a:Option Addr) (L:List (Int × Int)) (c:Nat) (r:Int) (w:World) (h:TIn w a L) (hL:L.length≤100) :
  Calls Try.prog 47 #[.slice a L.length c,.int .i64 r] w fun e w'=>SaysB e∧Below w.heap.size w w':=by
 have HR:=Lib.hid (regs_any a L c w h hL)
 have hLi:(L.length:Int)≤100:=by omega
 clear h
 go_enter Try.func47,Try.ntmps47
 go_wp2_with fail
 refine HR.out.mono ?_
 rintro e w1 ⟨⟨v,R,rfl,hown,hreg⟩,hb1⟩
 have hRl:=hreg.len
 clear hreg
 unfold LV at hown
 have HB1:=Lib.hid hb1
 have HO:=Lib.hid hown
 obtain ⟨pa,cc,rfl⟩:=own_len hown
 clear hown hb1 HR
 have hRi:(R.length:Int)≤100:=by omega
 go_wp2_with fail
 go_loopw [6] (fun x wr=>∃ q:Nat,q≤R.length∧x=.int .i64 (q:Int)∧Below w1.heap.size w1 wr) (fun x _=>R.length - (intOf x).toNat)
 case atStart=>exact ⟨0,Nat.zero_le _,rfl,Below.refl _ _⟩
 case round=>
  obtain ⟨q,hq,rfl,hbe⟩:=hrel
  have HBE:=Lib.hid hbe
  clear hbe
  have hqi:(q:Int)≤100:=by omega
  by_cases hlt:q < R.length
  ·have d1:decide ((q:Int) < (R.length:Int))=true:=by rw [decide_eq_true_iff]; omega
   have i1:(q:Int) < (R.length:Int):=by omega
   obtain ⟨g,rfl,hg,hgc,hgm,hcell⟩:=own_cell HO.out hlt rfl
   have c0:=cell_next hcell HBE.out
   clear hcell
   generalize R.getD q 0=x at *
   by_cases hx:x=r
   ·have k1:(x == r)=true:=by simp [hx]
    clear hx
    go_wp2_with fail
    go_ret
    exact ⟨⟨_,rfl⟩,below_next HB1.out HBE.out⟩
   ·have k1:(x == r)=false:=by simp [hx]
    clear hx
    go_wp2_with fail
    go_roundw
    case rel=>exact ⟨q + 1,hlt,by go_num,HBE.out⟩
    case measure=>simp [intOf]; omega
  ·have d1:decide ((q:Int) < (R.length:Int))=false:=by rw [decide_eq_false_iff_not]; omega
   have i1:¬ (q:Int) < (R.length:Int):=by omega
   go_wp2_with fail
   go_ret
   exact ⟨⟨_,rfl⟩,below_next HB1.out HBE.out⟩
end Go.Proofs.Yteghpophcnehgaa
namespace Go.Proofs.Yteghpophcnehgaa
open Go.RowKit ExprA SndA
namespace SndA
def SaysN (m:Nat) (e:Ending):Prop:=∃ n:Nat,e=.returned (.int .i64 (n:Int))∧n≤m
end SndA
set_option maxRecDepth 100000 in
set_option maxHeartbeats 8000000 in
theorem revents_any (a:Option Addr) (L:List Ins) (c:Nat) (w:World) (h:LIn w a L) (hL:L.length≤1000) :
  Calls Try.prog 32 #[.slice a L.length c] w fun e w'=>SaysN (2 * L.length) e∧Below w.heap.size w w':=by
 have HI:=Lib.hid h
 clear h
 go_enter Try.func32,Try.ntmps32
 go_wp2_with fail
 go_loopw [3,4] (fun v x wr=>∃ q n:Nat,q≤L.length∧x=.int .i64 q∧v=.int .i64 (n:Int)∧n≤2 * q∧Below w.heap.size w wr) (fun _ x _=>L.length - (intOf x).toNat)
 case atStart=>exact ⟨0,0,Nat.zero_le _,rfl,rfl,Nat.le_refl _,Below.refl _ _⟩
 case round=>
  obtain ⟨q,n,hq,rfl,rfl,hn,hbe⟩:=hrel
  have hqi9:(q:Int)≤1000:=by omega
  have hni9:(n:Int)≤2000:=by omega
  by_cases hlt:q < L.length
  ·have hdk:decide ((q:Int) < (L.length:Int))=true:=by simp; omega
   have hqi:(q:Int) < (L.length:Int):=by omega
   rcases HI.out.next hbe with h0 | ⟨b,o,rfl,hbl,hcc⟩
   ·rw [h0] at hlt; simp at hlt
   ·obtain ⟨c0,-,-,-,-,-,-⟩:=hcc q hlt
    clear hcc
    have HB:=Lib.hid hbe
    have HN:=Lib.hid hn
    clear hbe hn
    generalize (L.getD q Ins.zero).k=pk at *
    by_cases k1:pk=1
    ·subst k1
     go_wp2_with fail
     go_roundw
     case rel=>exact ⟨q + 1,n + 1,hlt,by go_num,by go_num,by have:=HN.out; omega,HB.out⟩
     case measure=>simp [intOf]; omega
    by_cases k2:pk=2
    ·subst k2
     go_wp2_with fail
     go_roundw
     case rel=>exact ⟨q + 1,n + 1,hlt,by go_num,by go_num,by have:=HN.out; omega,HB.out⟩
     case measure=>simp [intOf]; omega
    by_cases k3:pk=3
    ·subst k3
     go_wp2_with fail
     go_roundw
     case rel=>exact ⟨q + 1,n + 1,hlt,by go_num,by go_num,by have:=HN.out; omega,HB.out⟩
     case measure=>simp [intOf]; omega
    by_cases k4:pk=4
    ·subst k4
     go_wp2_with fail
     go_roundw
     case rel=>exact ⟨q + 1,n + 2,hlt,by go_num,by go_num,by have:=HN.out; omega,HB.out⟩
     case measure=>simp [intOf]; omega
    ·have b1:(pk == 1)=false:=by rw [beq_eq_false_iff_ne]; exact k1
     have b2:(pk == 2)=false:=by rw [beq_eq_false_iff_ne]; exact k2
     have b3:(pk == 3)=false:=by rw [beq_eq_false_iff_ne]; exact k3
     have b4:(pk == 4)=false:=by rw [beq_eq_false_iff_ne]; exact k4
     clear k1 k2 k3 k4
     go_wp2_with fail
     go_roundw
     case rel=>exact ⟨q + 1,n,hlt,by go_num,rfl,by have:=HN.out; omega,HB.out⟩
     case measure=>simp [intOf]; omega
  ·have hdk:decide ((q:Int) < (L.length:Int))=false:=by simp; omega
   have HB:=Lib.hid hbe
   have HN:=Lib.hid (show n≤2 * L.length by omega)
   clear hbe hn
   go_wp2_with fail
   go_ret
   exact ⟨⟨n,rfl,HN.out⟩,HB.out⟩
set_option maxRecDepth 100000 in
set_option maxHeartbeats 8000000 in
theorem rpaths_any (a:Option Addr) (L:List Ins) (c:Nat) (w:World) (h:LIn w a L) (hL:L.length≤1000) :
  Calls Try.prog 33 #[.slice a L.length c] w fun e w'=>SaysN 1000000 e∧Below w.heap.size w w':=by
 have HI:=Lib.hid h
 clear h
 go_enter Try.func33,Try.ntmps33
 go_wp2_with fail
 go_loopw [3,4] (fun v x wr=>∃ q n:Nat,q≤L.length∧x=.int .i64 q∧v=.int .i64 (n:Int)∧n≤1000000∧Below w.heap.size w wr) (fun _ x _=>L.length - (intOf x).toNat)
 case atStart=>exact ⟨0,1,Nat.zero_le _,rfl,rfl,by decide,Below.refl _ _⟩
 case round=>
  obtain ⟨q,n,hq,rfl,rfl,hn,hbe⟩:=hrel
  have hqi9:(q:Int)≤1000:=by omega
  have hni9:(n:Int)≤1000000:=by omega
  by_cases hlt:q < L.length
  ·have hdk:decide ((q:Int) < (L.length:Int))=true:=by simp; omega
   have hqi:(q:Int) < (L.length:Int):=by omega
   rcases HI.out.next hbe with h0 | ⟨b,o,rfl,hbl,hcc⟩
   ·rw [h0] at hlt; simp at hlt
   ·obtain ⟨c0,-,-,-,-,-,-⟩:=hcc q hlt
    clear hcc
    have HB:=Lib.hid hbe
    have HN:=Lib.hid hn
    clear hbe hn
    generalize (L.getD q Ins.zero).k=pk at *
    by_cases k6:pk=6
    ·subst k6
     have HM2:Hid (((min (2 * n) 1000000:Nat):Int)=min (2 * (n:Int)) 1000000):=Lib.hid (by omega)
     go_wp2_with fail
     go_roundw
     case rel=>
      refine ⟨q + 1,min (2 * n) 1000000,hlt,by go_num,?_,Nat.min_le_right _ _,HB.out⟩
      rw [HM2.out]
      congr 1
      split <;> omega
     case measure=>simp [intOf]; omega
    ·have b6:(pk == 6)=false:=by rw [beq_eq_false_iff_ne]; exact k6
     clear k6
     go_wp2_with fail
     go_roundw
     case rel=>exact ⟨q + 1,n,hlt,by go_num,rfl,HN.out,HB.out⟩
     case measure=>simp [intOf]; omega
  ·have hdk:decide ((q:Int) < (L.length:Int))=false:=by simp; omega
   have HB:=Lib.hid hbe
   have HN:=Lib.hid hn
   clear hbe hn
   go_wp2_with fail
   go_ret
   exact ⟨⟨n,rfl,HN.out⟩,HB.out⟩
end Go.Proofs.Yteghpophcnehgaa
