/-
  What the functions that the law reaches do, one by one: contracts. Conditions: those that each of them prints.
-/
import Derived.Test.YthcnhbclagegeaaGreatDoorRows
import Derived.WalkKit
import Derived.WalkSpells
import Derived.WalkLawsBesides
import Derived.Lib.Hide
import Derived.Lib.TrailingZeros
import Derived.Laws.Rows
import Derived.Deep.QuietTactic
import Derived.BigQuiet
import Derived.Laws.Bits64b
import Derived.Below
import Derived.StillTailTactics
import Derived.Deep.RegionWith
import Derived.BigRegion
import Derived.Deep.RegionHeld3
import Derived.Deep.DrawnRows
set_option maxRecDepth 20000
set_option maxHeartbeats 1000000
namespace Go.Proofs.YthcnhbclagegeaaGreatDoor
open Go.RowKit
theorem jh{p:Prop}(h:p):Hid p:=Lib.hid h
theorem jb{w:World}{o:Obj}:Below w.heap.size w (w.alloc o):=(Below.refl _ _).alloc (Nat.le_refl _) _
namespace RelA
def cells (n:Nat) (R:Nat->Nat):Array Value:=(Value.int .i64 n::(List.range 40).map fun i=>Value.int .u64 (R i)).toArray
def At (w:World) (b n:Nat) (R:Nat->Nat):Prop:=w.heap[b]?=some (.cells (cells n R) 67 (0,0))
theorem At.c0 {w b n R} (h:At w b n R):w.cell? ⟨b,0,none⟩=some (.int .i64 n):=by
 rw[cell_of_row w b 0 _ _ _ h];rfl
theorem Zx5 (n:Nat) (R:Nat->Nat) (i:Nat) (hi:i<40):(cells n R)[1+i]?=some (.int .u64 (R i)):=by
 unfold cells;rw[Nat.add_comm];simp[hi]
theorem At.ci {w b n R} (h:At w b n R) (i:Nat) (hi:i<40):w.cell? ⟨b,1+i,none⟩=some (.int .u64 (R i)):=by
 rw[cell_of_row w b _ _ _ _ h];exact Zx5 n R i hi
end RelA
open RelA
theorem Zeu (b n:Nat) (a:Int) (w:World) (h:w.cell? ⟨b,0,none⟩=some (.int .i64 n)) :
  Calls Tryz.prog 67 #[.pointer (some ⟨b,0,none⟩),.int .i64 a] w fun e w'=>e=.returned (.bool (decide (0<=a/\a<n)))/\w=w':=by
 by_cases h0:0<=a
 ·go_enter Tryz.func67,Tryz.ntmps67
  go_wp2
  go_ret
  exact⟨by simp[h0],rfl⟩
 ·go_enter Tryz.func67,Tryz.ntmps67
  go_wp2
  go_ret
  exact⟨by simp;omega,rfl⟩
theorem Zmg (b n:Nat) (w:World) (h:w.cell? ⟨b,0,none⟩=some (.int .i64 n)) :
  Calls Tryz.prog 82 #[.pointer (some ⟨b,0,none⟩)] w fun e w'=>e=.returned (.int .i64 n)/\w=w':=by
 go_enter Tryz.func82,Tryz.ntmps82
 go_wp2
 go_ret
 exact⟨rfl,rfl⟩
end Go.Proofs.YthcnhbclagegeaaGreatDoor
namespace Go.Proofs.YthcnhbclagegeaaGreatDoor
open Go.RowKit RelA
namespace RelA
def Zt4 (n:Nat) (R:Nat->Nat) (a b:Int):Bool:=decide (0<=a/\a<n)&&(decide (0<=b/\b<n)&&(R a.toNat).testBit b.toNat)
theorem Zwx (x j:Nat) (hx:x<18446744073709551616):(bits BinOp.and IntKind.u64 ((x:Int) / 2 ^ j) 1==1)=x.testBit j:=by
 have e:((x:Int) / 2 ^ j)=((x / 2 ^ j:Nat):Int):=by simp
 have h:=bits_and_u64_nat (x / 2 ^ j) 1 (Nat.lt_of_le_of_lt (Nat.div_le_self _ _) hx) (by omega)
 rw[e]
 have e1:((1:Nat):Int)=1:=rfl
 rw[e1] at h
 rw[h,Nat.and_one_is_mod,Nat.testBit_eq_decide_div_mod_eq,Bool.eq_iff_iff]
 simp
 omega
end RelA
theorem Ygo (b n:Nat) (R:Nat->Nat) (i j:Nat) (w:World) (h:At w b n R) (hn:n<=40) (hi:i<n) (hj:j<n) (hR:R i<18446744073709551616) :
  Calls Tryz.prog 23 #[.pointer (some ⟨b,0,none⟩),.int .i64 i,.int .i64 j] w fun e w'=>e=.returned (.bool ((R i).testBit j))/\w=w':=by
 have h0:=h.c0
 have hc:=h.ci i (by omega)
 have T1:=Zeu b n i w h0
 have T2:=Zeu b n j w h0
 have e1:decide (0<=(i:Int)/\(i:Int)<n)=true:=by simp;omega
 have e2:decide (0<=(j:Int)/\(j:Int)<n)=true:=by simp;omega
 rw[e1] at T1
 rw[e2] at T2
 have T1':=jh T1
 have T2':=jh T2
 clear T1 T2 e1 e2 h
 go_enter Tryz.func23,Tryz.ntmps23
 go_wp2_with fail
 refine T1'.out.mono ?_
 rintro e w' ⟨rfl,rfl⟩
 go_wp2_with fail
 refine T2'.out.mono ?_
 rintro e w' ⟨rfl,rfl⟩
 go_wp2_with fail
 go_ret
 refine⟨?_,rfl⟩
 show Ending.returned (Value.bool _)=_
 rw[<- Zwx (R i) j hR]
theorem Yla (b n:Nat) (i j:Int) (w:World) (h0:w.cell? ⟨b,0,none⟩=some (.int .i64 n)) (hi:¬ (0<=i/\i<n)) :
  Calls Tryz.prog 23 #[.pointer (some ⟨b,0,none⟩),.int .i64 i,.int .i64 j] w fun e w'=>e=.returned (.bool false)/\w=w':=by
 have T1:=Zeu b n i w h0
 have e1:decide (0<=i/\i<n)=false:=by simpa using hi
 rw[e1] at T1
 have T1':=jh T1
 clear T1 e1 hi
 go_enter Tryz.func23,Tryz.ntmps23
 go_wp2_with fail
 refine T1'.out.mono ?_
 rintro e w' ⟨rfl,rfl⟩
 go_wp2_with fail
 go_ret
 exact⟨rfl,rfl⟩
theorem Ylb (b n:Nat) (i j:Int) (w:World) (h0:w.cell? ⟨b,0,none⟩=some (.int .i64 n)) (hi:(0<=i/\i<n)) (hj:¬ (0<=j/\j<n)) :
  Calls Tryz.prog 23 #[.pointer (some ⟨b,0,none⟩),.int .i64 i,.int .i64 j] w fun e w'=>e=.returned (.bool false)/\w=w':=by
 have T1:=Zeu b n i w h0
 have T2:=Zeu b n j w h0
 have e1:decide (0<=i/\i<n)=true:=by simpa using hi
 have e2:decide (0<=j/\j<n)=false:=by simpa using hj
 rw[e1] at T1
 rw[e2] at T2
 have T1':=jh T1
 have T2':=jh T2
 clear T1 T2 e1 e2 hi hj
 go_enter Tryz.func23,Tryz.ntmps23
 go_wp2_with fail
 refine T1'.out.mono ?_
 rintro e w' ⟨rfl,rfl⟩
 go_wp2_with fail
 refine T2'.out.mono ?_
 rintro e w' ⟨rfl,rfl⟩
 go_wp2_with fail
 go_ret
 exact⟨rfl,rfl⟩
theorem Zwi (b n:Nat) (R:Nat->Nat) (i j:Int) (w:World) (h:At w b n R) (hn:n<=40) (hR:∀ i,i<n->R i<18446744073709551616) :
  Calls Tryz.prog 23 #[.pointer (some ⟨b,0,none⟩),.int .i64 i,.int .i64 j] w fun e w'=>e=.returned (.bool (Zt4 n R i j))/\w=w':=by
 by_cases hi:0<=i/\i<n
 ·by_cases hj:0<=j/\j<n
  ·obtain⟨i,rfl⟩:=Int.eq_ofNat_of_zero_le hi.1
   obtain⟨j,rfl⟩:=Int.eq_ofNat_of_zero_le hj.1
   have:=Ygo b n R i j w h hn (by omega) (by omega) (hR i (by omega))
   refine this.mono ?_
   rintro e w' ⟨rfl,rfl⟩
   refine⟨?_,rfl⟩
   have q:Zt4 n R i j=(R i).testBit j:=by
    unfold Zt4;rw[decide_eq_true hi,decide_eq_true hj];simp
   rw[q]
  ·refine(Ylb b n i j w h.c0 hi hj).mono ?_
   rintro e w' ⟨rfl,rfl⟩
   refine⟨?_,rfl⟩
   have q:Zt4 n R i j=false:=by
    unfold Zt4;rw[decide_eq_false hj];simp
   rw[q]
 ·refine(Yla b n i j w h.c0 hi).mono ?_
  rintro e w' ⟨rfl,rfl⟩
  refine⟨?_,rfl⟩
  have q:Zt4 n R i j=false:=by
   unfold Zt4;rw[decide_eq_false hi];simp
  rw[q]
namespace RelA
def Tab (w:World):Prop:=∀ k,k<64->w.cell? ⟨0,k,none⟩=some (.int .u8 (Lib.deBruijn64tab.getD k 0))
end RelA
namespace RelA
theorem Ypi (x:Nat) (h0:x≠0) (hx:x<18446744073709551616):∃ idx,idx<64/\Lib.deBruijn64tab.getD idx 0=Lib.ctz 64 x /\
  IntKind.u64.wrap (bits BinOp.and IntKind.u64 (x:Int) (IntKind.u64.wrap (-(x:Int)))*285870213051353865) / 288230376151711744=(idx:Int):=by
 obtain⟨hl,hc⟩:=Lib.lowest_bit 64 x h0 (by omega)
 have hd:=Lib.deBruijn64_at (Lib.ctz 64 x) hc
 have e:IntKind.u64.wrap (-(x:Int))=((2 ^ 64-x:Nat):Int):=by
  rw[IntKind.wrap_u64];omega
 have e2:=bits_and_u64_nat x (2 ^ 64-x) hx (by omega)
 rw[e,e2,hl]
 refine⟨2 ^ Lib.ctz 64 x*285870213051353865 % 18446744073709551616 / 288230376151711744,hd.1,hd.2,?_⟩
 rw[IntKind.wrap_u64]
 generalize 2 ^ Lib.ctz 64 x=y
 omega
theorem Ylj (x:Nat) (h0:x≠0) (hx:x<18446744073709551616):Lib.ctz 64 x<64:=
 (Lib.lowest_bit 64 x h0 (by omega)).2
end RelA
theorem Zuk (x:Nat) (w:World) (h:Tab w) (h0:x≠0) (hx:x<18446744073709551616) :
  Calls Tryz.prog 154 #[.int .u64 x] w fun e w'=>e=.returned (.int .i64 (Lib.ctz 64 x))/\w=w':=by
 obtain⟨idx,hi,hg,he⟩:=Ypi x h0 hx
 have hc:=h idx hi
 rw[hg] at hc
 have hk:=Ylj x h0 hx
 have hz:((x:Int)==0)=false:=by simp;omega
 generalize Lib.ctz 64 x=k at *
 clear h h0 hg hx
 go_enter Tryz.func154,Tryz.ntmps154
 go_wp2
 go_ret
 exact⟨rfl,rfl⟩
end Go.Proofs.YthcnhbclagegeaaGreatDoor
namespace Go.Proofs.YthcnhbclagegeaaGreatDoor
open Go.RowKit RelA
namespace RelA
def Zal (n:Int):Nat:=(min (max n 0) 40).toNat
def upd (R:Nat->Nat) (a x:Nat):Nat->Nat:=fun i=>if i=a then x else R i
def inB (n:Nat) (a:Int):Bool:=decide (0<=a/\a<n)
def Zd3 (n:Nat) (R:Nat->Nat) (p:Int×Int):Nat->Nat:=
 if inB n p.1&&inB n p.2 then upd R p.1.toNat (R p.1.toNat|||2 ^ p.2.toNat) else R
def Zqu (n:Nat) (l:List (Int×Int)):Nat->Nat:=l.foldl (Zd3 n) (fun _=>0)
theorem At.lt {w:World} {b n:Nat} {R:Nat->Nat} (h:At w b n R):b<w.heap.size:=block_lt_of_cell h.c0
theorem At.below {w w':World} {B b n:Nat} {R:Nat->Nat} (h:At w b n R) (hB:Below B w w') (hb:b<B):At w' b n R:=by
 unfold At;rw[hB.block b hb];exact h
theorem At.alloc {w:World} {b n:Nat} {R:Nat->Nat} (h:At w b n R) (o:Obj):At (w.alloc o) b n R:=
 h.below ((Below.refl w.heap.size w).alloc (Nat.le_refl _) o) h.lt
theorem Zx4 (n:Nat) (R:Nat->Nat) (i x:Nat):(cells n R).setIfInBounds (1+i) (.int .u64 x)=cells n (upd R i x):=by
 unfold cells
 apply Array.ext'
 rw[Nat.add_comm 1 i,Array.toList_setIfInBounds]
 show(_::_).set (i+1) _=_::_
 rw[List.set_cons_succ]
 congr 1
 apply List.ext_getElem?
 intro j
 rw[List.getElem?_set]
 by_cases e:i=j
 ·subst e
  by_cases hj:i<40<;>simp[hj,upd]
 ·by_cases hj:j<40<;>simp[hj,upd,e,Ne.symm e]
theorem At.set {w:World} {b n:Nat} {R:Nat->Nat} (h:At w b n R) (i x:Nat):At (w.setCell ⟨b,1+i,none⟩ (.int .u64 x)) b n (upd R i x):=by
 unfold At
 rw[heap_setCell_same w b (1+i) (cells n R) 67 _ h,Zx4]
theorem At.drew {w:World} {b n:Nat} {R:Nat->Nat} (h:At w b n R):At w.drew b n R:=h
theorem At.frozen {w:World} {b n:Nat} {R:Nat->Nat} (h:At w b n R) (j:Nat):w.frozen? ⟨b,j,none⟩=false:=frozen_of_row w b j _ _ h
theorem Yeh (w:World) (n:Nat):At (w.alloc (.cells (cells n fun _=>0) 67 (0,0))) w.heap.size n (fun _=>0):=heap_alloc_new _ _
theorem Zfr (w:World) (N:Nat) (x:Int) (h:(N:Int)=x):At (w.alloc (.cells #[.int .i64 x,.int .u64 0,.int .u64 0,.int .u64 0,.int .u64 0,.int .u64 0,.int .u64 0,.int .u64 0,.int .u64 0,.int .u64 0,.int .u64 0,.int .u64 0,.int .u64 0,.int .u64 0,.int .u64 0,.int .u64 0,.int .u64 0,.int .u64 0,.int .u64 0,.int .u64 0,.int .u64 0,.int .u64 0,.int .u64 0,.int .u64 0,.int .u64 0,.int .u64 0,.int .u64 0,.int .u64 0,.int .u64 0,.int .u64 0,.int .u64 0,.int .u64 0,.int .u64 0,.int .u64 0,.int .u64 0,.int .u64 0,.int .u64 0,.int .u64 0,.int .u64 0,.int .u64 0,.int .u64 0] 67 (0,0))) w.heap.size N (fun _=>0):=by
 subst h;exact Yeh w N
theorem Zxk (n:Nat) (l:List (Int×Int)) (k:Nat) (h:k<l.length):Zqu n (l.take (k+1))=Zd3 n (Zqu n (l.take k)) (l.getD k (0,0)):=by
 unfold Zqu
 rw[List.take_succ_eq_append_getElem h,List.foldl_append]
 simp[h]
theorem Zul (j:Nat) (h:j<64):IntKind.u64.wrap (2 ^ j)=((2 ^ j:Nat):Int):=by
 have:2 ^ j<2 ^ 64:=Nat.pow_lt_pow_right (by omega) h
 rw[IntKind.wrap_u64]
 have e:((2:Int) ^ j)=((2 ^ j:Nat):Int):=by simp
 rw[e];generalize 2 ^ j=y at *;omega
theorem Zrt (N x:Nat) (hN:N<=40) (h:x<2 ^ N):x<18446744073709551616:=by
 have:2 ^ N<=2 ^ 64:=Nat.pow_le_pow_right (by omega) (by omega)
 omega
theorem Ztg (n:Nat) (R:Nat->Nat) (p:Int×Int) (h:∀ i,R i<2 ^ n) (i:Nat):Zd3 n R p i<2 ^ n:=by
 unfold Zd3
 split
 ·rename_i hp
  rw[Bool.and_eq_true] at hp
  have h2:=of_decide_eq_true hp.2
  unfold upd;split
  ·exact Nat.or_lt_two_pow (h _) (Nat.pow_lt_pow_right (by omega) (by omega))
  ·exact h i
 ·exact h i
theorem Zv3 (n:Nat) (l:List (Int×Int)):∀ i,Zqu n l i<2 ^ n:=by
 unfold Zqu
 have:∀ (l:List (Int×Int)) (R:Nat->Nat),(∀ i,R i<2 ^ n)->∀ i,l.foldl (Zd3 n) R i<2 ^ n:=by
  intro l
  induction l with
  | nil=>intro R h;exact h
  | cons p l ih=>intro R h;exact ih _ (Ztg n R p h)
 exact this l _ (fun _=>Nat.pow_pos (by omega))
theorem Zo2 (n:Int):Zal n<=40:=by unfold Zal;omega
end RelA
theorem Zkb (x:Bool) (b n:Nat) (R:Nat->Nat) (a:Int) (w:World) (h:At w b n R) (hx:inB n a=x) :
  Calls Tryz.prog 67 #[.pointer (some ⟨b,0,none⟩),.int .i64 a] w fun e w'=>e=.returned (.bool x)/\w=w':=by
 rw[<- hx];exact Zeu b n a w h.c0
theorem Zr3 (n:Int) (lb lo:Nat) (l:List (Int×Int)) (cap:Nat) (w:World) (hm:l.length<=maxLen) (hlb:lb<w.heap.size) (hc:∀ i,i<l.length ->
  w.cell? ⟨lb,lo+i*2,none⟩=some (.int .i64 (l.getD i (0,0)).1)/\w.cell? ⟨lb,lo+i*2+1,none⟩=some (.int .i64 (l.getD i (0,0)).2)) :
  Calls Tryz.prog 152 #[.int .i64 n,.slice (some ⟨lb,lo,none⟩) l.length cap] w fun e w'=>e=.returned (.pointer (some ⟨w.heap.size,0,none⟩))/\At w' w.heap.size (Zal n) (Zqu (Zal n) l)/\Below w.heap.size w w':=by
 unfold maxLen at hm
 have HC:=jh hc
 clear hc
 go_enter Tryz.func152,Tryz.ntmps152
 go_wp2_with fail
 all_goals
  go_loopw [15] (fun i wr=>∃ k:Nat,k<=l.length/\i=.int .i64 k/\At wr w.heap.size (Zal n) (Zqu (Zal n) (l.take k))/\Below w.heap.size w wr) (fun i _=>l.length-(intOf i).toNat)
  case atStart=>
   exact⟨0,Nat.zero_le _,rfl,Zfr w _ _ (by unfold Zal;omega),jb⟩
  case round=>
   obtain⟨k,hk,rfl,hat,hbe⟩:=hrel
   by_cases hlt:k<l.length
   ·have hcc:=HC.out k hlt
    have hc1:=(hbe.cell (p:=⟨lb,lo+k*2,none⟩) hlb).trans hcc.1
    have hc2:=(hbe.cell (p:=⟨lb,lo+k*2+1,none⟩) hlb).trans hcc.2
    have HT:=jh (Zxk (Zal n) l k hlt)
    have hR:=jh (Zv3 (Zal n) (l.take k))
    clear hcc
    generalize Zqu (Zal n) (l.take k)=R at *
    generalize l.getD k (0,0)=p at *
    obtain⟨pa,pb⟩:=p
    simp only at hc1 hc2
    have HAT:=jh hat
    clear hat
    have hN:=Zo2 n
    generalize Zal n=N at *
    cases hA:inB N pa
    ·have HA:=jh hA
     clear hA
     go_wp2_with fail
     refine(Zkb false _ _ R _ _ (HAT.out.alloc _) HA.out).mono ?_
     rintro e w' ⟨rfl,rfl⟩
     go_wp2_with fail
     go_roundw
     case rel=>
      refine⟨k+1,by omega,by go_num,?_,?_⟩
      ·rw[HT.out];unfold Zd3;rw[HA.out];exact HAT.out.alloc _
      ·exact hbe.alloc hbe.size _
     case measure=>simp[intOf];omega
    ·cases hB:inB N pb
     ·have HA:=jh hA
      have HB:=jh hB
      clear hA hB
      go_wp2_with fail
      refine(Zkb true _ _ R _ _ (HAT.out.alloc _) HA.out).mono ?_
      rintro e w' ⟨rfl,rfl⟩
      go_wp2_with fail
      refine(Zkb false _ _ R _ _ (HAT.out.alloc _) HB.out).mono ?_
      rintro e w' ⟨rfl,rfl⟩
      go_wp2_with fail
      go_roundw
      case rel=>
       refine⟨k+1,by omega,by go_num,?_,?_⟩
       ·rw[HT.out];unfold Zd3;rw[HA.out,HB.out];exact HAT.out.alloc _
       ·exact hbe.alloc hbe.size _
      case measure=>simp[intOf];omega
     ·have HA:=jh hA
      have HB:=jh hB
      unfold inB at hA hB
      have ha:=of_decide_eq_true hA
      have hb:=of_decide_eq_true hB
      obtain⟨i,rfl⟩:=Int.eq_ofNat_of_zero_le ha.1
      obtain⟨j,rfl⟩:=Int.eq_ofNat_of_zero_le hb.1
      have hi:i<N:=by omega
      have hj:j<N:=by omega
      clear hA hB ha hb
      go_wp2_with fail
      refine(Zkb true _ _ R _ _ (HAT.out.alloc _) HA.out).mono ?_
      rintro e w' ⟨rfl,rfl⟩
      go_wp2_with fail
      refine(Zkb true _ _ R _ _ (HAT.out.alloc _) HB.out).mono ?_
      rintro e w' ⟨rfl,rfl⟩
      go_wp2_with fail
      have hcell:=(HAT.out.alloc (Obj.cells #[Value.int IntKind.i64 i,Value.int IntKind.i64 j] 56)).ci i (by omega)
      have hfro:=(HAT.out.alloc (Obj.cells #[Value.int IntKind.i64 i,Value.int IntKind.i64 j] 56)).frozen (1+i)
      go_region
      go_wp2_with fail
      go_roundw
      case rel=>
       refine⟨k+1,by omega,by go_num,?_,?_⟩
       ·rw[HT.out];unfold Zd3;rw[HA.out,HB.out,Zul j (by omega),bits_or_u64_nat (R i) (2 ^ j) (Zrt N _ hN (hR.out i)) (Zrt N _ hN (Nat.pow_lt_pow_right (by omega) (by omega)))]
        exact(HAT.out.alloc _).set i _
       ·exact((hbe.alloc hbe.size _).setCell (Nat.le_refl _) _).drew
      case measure=>simp[intOf];omega
   ·have he:k=l.length:=by omega
    have HE:=jh he
    clear he
    have HAT:=jh hat
    clear hat
    go_wp2_with fail
    go_ret
    refine⟨rfl,?_,hbe⟩
    have:=HAT.out
    rw[HE.out,List.take_length] at this
    exact this
end Go.Proofs.YthcnhbclagegeaaGreatDoor
namespace Go.Proofs.YthcnhbclagegeaaGreatDoor
open Go.RowKit RelA
theorem or1 (x y:Nat) (w:World) (hx:x<18446744073709551616) (hy:y<18446744073709551616) :
  Calls Tryz.prog 166 #[.int .u64 x,.int .u64 y] w fun e w'=>e=.returned (.int .u64 (x|||y:Nat))/\w=w':=by
 have h:=bits_or_u64_nat x y hx hy
 clear hx hy
 go_enter Tryz.func166,Tryz.ntmps166
 go_wp2_with fail
 go_ret
 exact⟨rfl,rfl⟩
theorem Xbv (x y:Nat) (w:World) (hx:x<18446744073709551616) (hy:y<18446744073709551616) :
  Calls Tryz.prog 159 #[.int .u64 x,.int .u64 y] w fun e w'=>e=.returned (.int .u64 (x&&&y:Nat))/\w=w':=by
 have h:=bits_and_u64_nat x y hx hy
 clear hx hy
 go_enter Tryz.func159,Tryz.ntmps159
 go_wp2_with fail
 go_ret
 exact⟨rfl,rfl⟩
theorem Zgz (a b:Nat) (ha:a<18446744073709551616) (hb:b<18446744073709551616) :
  bits .andNot .u64 (a:Int) (b:Int)=((a ^^^ (a&&&b):Nat):Int):=by
 have h1:(BitVec.ofInt 64 (a:Int)).toNat=a:=by
  rw[BitVec.ofInt_natCast,BitVec.toNat_ofNat];exact Nat.mod_eq_of_lt (by omega)
 have h2:(BitVec.ofInt 64 (b:Int)).toNat=b:=by
  rw[BitVec.ofInt_natCast,BitVec.toNat_ofNat];exact Nat.mod_eq_of_lt (by omega)
 show IntKind.u64.wrap ((BitVec.ofInt 64 (a:Int) &&& ~~~ BitVec.ofInt 64 (b:Int)).toNat:Int)=_
 have e:BitVec.ofInt 64 (a:Int) &&& ~~~ BitVec.ofInt 64 (b:Int)=BitVec.ofInt 64 (a:Int) ^^^ (BitVec.ofInt 64 (a:Int)&&&BitVec.ofInt 64 (b:Int)):=by
  ext i hi
  simp only[BitVec.getElem_and,BitVec.getElem_not,BitVec.getElem_xor]
  cases (BitVec.ofInt 64 (a:Int))[i]<;>cases (BitVec.ofInt 64 (b:Int))[i]<;>rfl
 rw[e,BitVec.toNat_xor,BitVec.toNat_and,h1,h2,IntKind.wrap_u64]
 have hx:a ^^^ (a&&&b)<2 ^ 64:=Nat.xor_lt_two_pow (by omega) (Nat.and_lt_two_pow _ (by omega))
 omega
theorem Yrh (x y:Nat) (w:World) (hx:x<18446744073709551616) (hy:y<18446744073709551616) :
  Calls Tryz.prog 167 #[.int .u64 x,.int .u64 y] w fun e w'=>e=.returned (.int .u64 (x ^^^ (x&&&y):Nat))/\w=w':=by
 have h:=Zgz x y hx hy
 clear hx hy
 go_enter Tryz.func167,Tryz.ntmps167
 go_wp2_with fail
 go_ret
 exact⟨rfl,rfl⟩
theorem RelA.At.congr {w:World} {b n:Nat} {R S:Nat->Nat} (h:At w b n R) (e:∀ i,i<40->R i=S i):At w b n S:=by
 have:cells n R=cells n S:=by
  unfold cells
  congr 2
  apply List.map_congr_left
  intro i hi
  rw[e i (List.mem_range.1 hi)]
 unfold At;rw[<- this];exact h
theorem Ygy (x y:Value) (w:World):Sem.run Tryz.prog (callFunc 159 #[x,y]) w=.ok (.enter 159 #[x,y]) w:=by go_simp
theorem Ygx (x y:Value) (w:World):Sem.run Tryz.prog (callFunc 167 #[x,y]) w=.ok (.enter 167 #[x,y]) w:=by go_simp
theorem Ygz (x y:Value) (w:World):Sem.run Tryz.prog (callFunc 166 #[x,y]) w=.ok (.enter 166 #[x,y]) w:=by go_simp
theorem Zng (F:FuncId) (op:Nat->Nat->Nat) (hf:∀ (x y:Nat) (w:World),x<2 ^ 40->y<2 ^ 40->Calls Tryz.prog F #[.int .u64 x,.int .u64 y] w fun e w'=>e=.returned (.int .u64 (op x y:Nat))/\w'=w)
  (hent:∀ (x y:Value) (w:World),Sem.run Tryz.prog (callFunc F #[x,y]) w=.ok (.enter F #[x,y]) w)
  (b n c m:Nat) (R S:Nat->Nat) (w:World) (hb:At w b n R) (hc:At w c m S) (hR:∀ i,R i<2 ^ 40) (hS:∀ i,S i<2 ^ 40) :
  Calls Tryz.prog 158 #[.pointer (some ⟨b,0,none⟩),.pointer (some ⟨c,0,none⟩),.func (.func F) #[] #[]] w fun e w'=>e=.returned (.pointer (some ⟨w.heap.size,0,none⟩))/\At w' w.heap.size (max n m) (fun i=>op (R i) (S i))/\Below w.heap.size w w':=by
 have hb0:=hb.c0
 have hc0:=hc.c0
 have HF:=jh hf
 have HR:=jh hR
 have HS:=jh hS
 have HB:=jh hb
 have HC:=jh hc
 clear hf hR hS hb hc
 by_cases hnm:m<=n
 all_goals
  go_enter Tryz.func158,Tryz.ntmps158
  go_wp2_with fail
  go_region
  go_wp2_with fail
  go_loopw [20] (fun i wr=>∃ k:Nat,k<=40/\i=.int .i64 k/\At wr w.heap.size (max n m) (fun j=>if j<k then op (R j) (S j) else 0)/\Below w.heap.size w wr) (fun i _=>40-(intOf i).toNat)
  case atStart=>
   refine⟨0,Nat.zero_le _,rfl,?_,jb.drew⟩
   exact(Zfr w (max n m) _ (by omega)).drew
  case round=>
   obtain⟨k,hk,rfl,hat,hbe⟩:=hrel
   by_cases hlt:k<40
   ·have hb1:=(HB.out.below hbe HB.out.lt).ci k hlt
    have hc1:=(HC.out.below hbe HC.out.lt).ci k hlt
    have hfz:=hat.frozen (1+k)
    have hd:=hat.ci k hlt
    have HAT:=jh hat
    have HX:=HF.out (R k) (S k) wr.drew (HR.out k) (HS.out k)
    have HX':=jh HX
    clear hat HX
    go_wp2_with fail
    refine wp_region_still_tail 19 (by kernel_rfl) (by kernel_rfl) ?_
    simp only[List.take_succ_cons,List.take_zero,List.drop_succ_cons,List.drop_zero]
    show wpStill _ _ wr.drew (fun a'=>wpList _ _ _ _ a' wr.drew) _ _
    repeat still_step
    still_call HX'.out
    repeat still_step
    refine wpStill_nil ?_
    go_wp2_with fail
    go_roundw
    case rel=>
     refine⟨k+1,by omega,by go_num,?_,(hbe.setCell (Nat.le_refl _) _).drew⟩
     refine((HAT.out.set k (op (R k) (S k))).drew).congr fun j _=>?_
     unfold upd
     by_cases e:j=k
     ·subst e;simp
     ·rw[if_neg e]
      show(if j<k then op (R j) (S j) else 0)=_
      by_cases e2:j<k
      ·rw[if_pos e2,if_pos (by omega)]
      ·rw[if_neg e2,if_neg (by omega)]
    case measure=>simp[intOf];omega
   ·have hk40:40<=k:=by omega
    have HAT:=jh hat
    clear hat
    go_wp2_with fail
    go_ret
    exact⟨rfl,HAT.out.congr fun i hi=>by rw[if_pos (by omega)],hbe⟩
theorem Zly {x:Nat} (h:x<2 ^ 40):x<18446744073709551616:=by omega
theorem Zuu (b n c m:Nat) (R S:Nat->Nat) (w:World) (hb:At w b n R) (hc:At w c m S) (hR:∀ i,R i<2 ^ 40) (hS:∀ i,S i<2 ^ 40) :
  Calls Tryz.prog 122 #[.pointer (some ⟨b,0,none⟩),.pointer (some ⟨c,0,none⟩)] w fun e w'=>e=.returned (.pointer (some ⟨w.heap.size,0,none⟩))/\At w' w.heap.size (max n m) (fun i=>R i|||S i)/\Below w.heap.size w w':=by
 have H:=jh (Zng 166 (· ||| ·) (fun x y w hx hy=>(or1 x y w (Zly hx) (Zly hy)).mono fun e w' h=>⟨h.1,h.2.symm⟩) Ygz b n c m R S w hb hc hR hS)
 clear hb hc hR hS
 go_enter Tryz.func122,Tryz.ntmps122
 go_wp2_with fail
 refine H.out.mono ?_
 rintro e w' ⟨rfl,h1,h2⟩
 have H1:=jh h1
 clear h1
 go_wp2_with fail
 go_ret
 exact⟨rfl,H1.out,h2⟩
theorem Yhd (b n c m:Nat) (R S:Nat->Nat) (w:World) (hb:At w b n R) (hc:At w c m S) (hR:∀ i,R i<2 ^ 40) (hS:∀ i,S i<2 ^ 40) :
  Calls Tryz.prog 106 #[.pointer (some ⟨b,0,none⟩),.pointer (some ⟨c,0,none⟩)] w fun e w'=>e=.returned (.pointer (some ⟨w.heap.size,0,none⟩))/\At w' w.heap.size (max n m) (fun i=>R i&&&S i)/\Below w.heap.size w w':=by
 have H:=jh (Zng 159 (· &&& ·) (fun x y w hx hy=>(Xbv x y w (Zly hx) (Zly hy)).mono fun e w' h=>⟨h.1,h.2.symm⟩) Ygy b n c m R S w hb hc hR hS)
 clear hb hc hR hS
 go_enter Tryz.func106,Tryz.ntmps106
 go_wp2_with fail
 refine H.out.mono ?_
 rintro e w' ⟨rfl,h1,h2⟩
 have H1:=jh h1
 clear h1
 go_wp2_with fail
 go_ret
 exact⟨rfl,H1.out,h2⟩
theorem Ybd (b n c m:Nat) (R S:Nat->Nat) (w:World) (hb:At w b n R) (hc:At w c m S) (hR:∀ i,R i<2 ^ 40) (hS:∀ i,S i<2 ^ 40) :
  Calls Tryz.prog 123 #[.pointer (some ⟨b,0,none⟩),.pointer (some ⟨c,0,none⟩)] w fun e w'=>e=.returned (.pointer (some ⟨w.heap.size,0,none⟩))/\At w' w.heap.size (max n m) (fun i=>R i ^^^ (R i&&&S i))/\Below w.heap.size w w':=by
 have H:=jh (Zng 167 (fun x y=>x ^^^ (x&&&y)) (fun x y w hx hy=>(Yrh x y w (Zly hx) (Zly hy)).mono fun e w' h=>⟨h.1,h.2.symm⟩) Ygx b n c m R S w hb hc hR hS)
 clear hb hc hR hS
 go_enter Tryz.func123,Tryz.ntmps123
 go_wp2_with fail
 refine H.out.mono ?_
 rintro e w' ⟨rfl,h1,h2⟩
 have H1:=jh h1
 clear h1
 go_wp2_with fail
 go_ret
 exact⟨rfl,H1.out,h2⟩
end Go.Proofs.YthcnhbclagegeaaGreatDoor
namespace Go.Proofs.YthcnhbclagegeaaGreatDoor
namespace RelA
def Zhd (p:Nat->Bool):Nat->Nat
 | 0=>0
 | n+1=>Zhd p n|||(if p n then 2 ^ n else 0)
theorem Zbi (p:Nat->Bool) (n i:Nat):(Zhd p n).testBit i=(decide (i<n)&&p i):=by
 induction n with
 | zero=>simp[Zhd]
 | succ n ih=>
  unfold Zhd
  rw[Nat.testBit_or,ih]
  by_cases h:i<n
  ·have h2:¬ n=i:=by omega
   cases hp:p n<;>simp[h,h2]<;>omega
  ·by_cases e:i=n
   ·subst e;cases hp:p i<;>simp
   ·have h2:¬ n=i:=by omega
    have h3:¬ i<n+1:=by omega
    cases hp:p n<;>simp[h,h2,h3]
theorem Zh3 (p:Nat->Bool) (n:Nat):Zhd p n<2 ^ n:=by
 apply Nat.lt_pow_two_of_testBit
 intro i hi
 rw[Zbi]
 simp;omega
theorem Zhe {x i:Nat} (h:x<2 ^ 40) (hb:x.testBit i=true):i<40:=by
 by_cases hi:i<40
 ·exact hi
 ·have:x<2 ^ i:=Nat.lt_of_lt_of_le h (Nat.pow_le_pow_right (by omega) (by omega))
  rw[Nat.testBit_lt_two_pow this] at hb
  cases hb
theorem Zjp (x:Nat) (h0:x≠0) (hx:x<2 ^ 64) (j:Nat):(x&&&(x-1)).testBit j=(x.testBit j&&decide (j≠Lib.ctz 64 x))/\x.testBit (Lib.ctz 64 x)=true:=by
 obtain⟨m,hm,hk⟩:=Lib.ctzFrom_spec 64 x (by omega) hx
 have e:Lib.ctz 64 x=Lib.ctzFrom 64 x:=by simp[Lib.ctz,h0]
 rw[e]
 generalize Lib.ctzFrom 64 x=k at *
 have hp:0<2 ^ k:=Nat.pow_pos (by omega)
 have hm1:x-1=2 ^ k*(2*m)+(2 ^ k-1):=by
  rw[hm,Nat.mul_add];omega
 have b1:∀ j,x.testBit j=(decide (j≥k)&&(2*m+1).testBit (j-k)):=by
  intro j;rw[hm,Nat.testBit_two_pow_mul]
 have b2:∀ j,(x-1).testBit j=if j<k then (2 ^ k-1).testBit j else (2*m).testBit (j-k):=by
  intro j;rw[hm1,Nat.testBit_two_pow_mul_add _ (by omega)]
 constructor
 ·rw[Nat.testBit_and,b1,b2]
  by_cases hj:j<k
  ·have:¬ k<=j:=by omega
   simp[this]
  ·have h2:k<=j:=by omega
   simp only[ge_iff_le,h2,decide_true,Bool.true_and,hj,if_false]
   obtain⟨d,rfl⟩:∃ d,j=k+d:=⟨j-k,by omega⟩
   rw[Nat.add_sub_cancel_left]
   cases d with
   | zero=>simp
   | succ d=>
    rw[Nat.testBit_succ,Nat.testBit_succ]
    have:(2*m+1) / 2=m:=by omega
    rw[this]
    have:(2*m) / 2=m:=by omega
    rw[this]
    simp
 ·rw[b1];simp
theorem Zfx (x:Nat) (h0:x≠0):x&&&(x-1)<x:=by
 have:x&&&(x-1)<=x-1:=Nat.and_le_right
 omega
theorem Zhr (x:Nat) (h0:x≠0) (hx:x<2 ^ 40):Lib.ctz 64 x<40:=
 Zhe hx (Zjp x h0 (by omega) 0).2
def U (S:Nat->Nat) (x:Nat):Nat:=Zhd (fun i=>(List.range 40).any fun j=>x.testBit j&&(S j).testBit i) 40
theorem Ypa (S:Nat->Nat) (x:Nat):U S x<2 ^ 40:=Zh3 _ _
theorem Yl2 (S:Nat->Nat):U S 0=0:=by
 apply Nat.eq_of_testBit_eq
 intro i
 unfold U
 rw[Zbi]
 simp
theorem Zuj (S:Nat->Nat) (x i:Nat):(U S x).testBit i=true↔i<40/\∃ j,j<40/\x.testBit j=true/\(S j).testBit i=true:=by
 unfold U
 rw[Zbi]
 simp
theorem Yl3 (S:Nat->Nat) (x:Nat) (hS:∀ i,S i<2 ^ 40) (h0:x≠0) (hx:x<2 ^ 40):U S x=S (Lib.ctz 64 x)|||U S (x&&&(x-1)):=by
 apply Nat.eq_of_testBit_eq
 intro i
 rw[Nat.testBit_or,Bool.eq_iff_iff,Bool.or_eq_true,Zuj,Zuj]
 have hb:=Zjp x h0 (by omega)
 constructor
 ·rintro⟨hi,j,hj,h1,h2⟩
  by_cases e:j=Lib.ctz 64 x
  ·subst e;exact .inl h2
  ·exact .inr ⟨hi,j,hj,by rw[(hb j).1,h1];simpa using e,h2⟩
 ·rintro(h | ⟨hi,j,hj,h1,h2⟩)
  ·exact⟨Zhe (hS _) h,_,Zhr x h0 hx,(hb 0).2,h⟩
  ·rw[(hb j).1,Bool.and_eq_true] at h1
   exact⟨hi,j,hj,h1.1,h2⟩
end RelA
end Go.Proofs.YthcnhbclagegeaaGreatDoor
namespace Go.Proofs.YthcnhbclagegeaaGreatDoor
open Go.RowKit RelA
namespace RelA
def Za3 (R:Nat->Nat):Array Value:=((List.range 40).map fun i=>Value.int .u64 (R i)).toArray
theorem Zb0 (R:Nat->Nat) (k:Nat) (h:k<40):(Za3 R)[k]?=some (.int .u64 (R k)):=by simp[Za3,h]
theorem Zfb {w:World} {b n:Nat} {R:Nat->Nat} (h:At w b n R):(loadVar 65 ⟨b,1,none⟩).run Tryz.prog w=.ok (.agg (Za3 R)) w:=by
 have hl:(loadCells ⟨b,1,none⟩ ((List.range 40).map fun i=>Value.int .u64 (R i)).length).run Tryz.prog w=.ok (Za3 R) w:=
  run_loadCells_list (P:=Tryz.prog) w ⟨b,1,none⟩ ((List.range 40).map fun i=>Value.int .u64 (R i)) (fun j v hv=>by
   have hj:j<40:=by
    have:=(List.getElem?_eq_some_iff.1 hv).1
    simpa using this
   have hadd:(⟨b,1,none⟩:Addr).add j=⟨b,1+j,none⟩:=by unfold Addr.add;simp
   rw[hadd,h.ci j hj]
   simpa [hj] using hv)
 rw[List.length_map,List.length_range] at hl
 have hagg:(isAgg 65).run Tryz.prog w=.ok true w:=by kernel_rfl
 simp[loadVar,Sem.run_bind,hagg,hl]
theorem Zbz {ops:Array Oper} {rest:List Oper} {o:Oper} {a:Act} {w:World} {Q:Exit->Act->World->Prop} (hgd:o.guard=none) (x:Operand) (ho:o.op=.load 65 x)
  (b n:Nat) (R:Nat->Nat) (hx:a.eval x=.pointer (some ⟨b,1,none⟩)) (hA:At w b n R)
  (h:wpList Tryz.prog ops Q rest (a.put o.dst (.agg (Za3 R))) w):wpList Tryz.prog ops Q (o::rest) a w:=
 wpList_plain hgd fun _ hK=>by
  unfold Oper.wp execOp
  simp only[ho,hx,Instr.loadAt,Instr.sureAddr,Sem.run_bind,Sem.run_pure,Result.andThen_ok,Zfb hA]
  exact hK _ _ h
theorem Zcj (R:Nat->Nat) (k:Nat) (h:k<40) (w:World):(Instr.index 65 (.agg (Za3 R)) (.int .i64 (k:Int))).run Tryz.prog w=.ok (.int .u64 (R k)) w:=by
 have hu:Tryz.prog.underlying 65=some (.array 40 63):=by kernel_rfl
 have hr:=Zb0 R k h
 have hge:¬ 40<=k:=by omega
 simp[Instr.index,asIntOf,run_underlying hu,Sem.run_bind,hge,part,hr]
end RelA
theorem Zvl (b n c m:Nat) (R S:Nat->Nat) (w:World) (hb:At w b n R) (hc:At w c m S) (hR:∀ i,R i<2 ^ 40) (hS:∀ i,S i<2 ^ 40) (htab:Tab w) :
  Calls Tryz.prog 80 #[.pointer (some ⟨b,0,none⟩),.pointer (some ⟨c,0,none⟩)] w fun e w'=>e=.returned (.pointer (some ⟨w.heap.size,0,none⟩))/\At w' w.heap.size (max n m) (fun i=>U S (R i))/\Below w.heap.size w w':=by
 have hb0:=hb.c0
 have hc0:=hc.c0
 have HR:=jh hR
 have HS:=jh hS
 have HB:=jh hb
 have HC:=jh hc
 have HTAB:=jh htab
 clear hR hS hb hc htab
 by_cases hnm:m<=n
 all_goals
  go_enter Tryz.func80,Tryz.ntmps80
  go_wp2_with fail
  go_region
  go_wp2_with ((with_reducible refine Zbz rfl _ rfl b n R rfl (HB.out.below (jb.drew) HB.out.lt) ?_))
  go_loopw [23] (fun i wr=>∃ k:Nat,k<=40/\i=.int .i64 k/\At wr w.heap.size (max n m) (fun j=>if j<k then U S (R j) else 0)/\Below w.heap.size w wr) (fun i _=>40-(intOf i).toNat)
  case atStart=>
   refine⟨0,Nat.zero_le _,rfl,?_,jb.drew⟩
   exact(Zfr w (max n m) _ (by omega)).drew
  case round=>
   obtain⟨k,hk,rfl,hat,hbe⟩:=hrel
   by_cases hlt:k<40
   ·obtain⟨wo,rfl⟩:∃ wo:World,wo=wr:=⟨_,rfl⟩
    have hix:=Zcj R k hlt
    have hdk:decide ((k:Int)<40)=true:=by simp;omega
    have HAT:=jh hat
    clear hat
    go_wp2_with fail
    go_loopw [7] (fun x wi=>∃ y acc:Nat,y<2 ^ 40/\acc<2 ^ 40/\x=.int .u64 y/\Hid (acc|||U S y=U S (R k))/\At wi w.heap.size (max n m) (upd (fun j=>if j<k then U S (R j) else 0) k acc)/\Below w.heap.size w wi) (fun x _=>(intOf x).toNat)
    case atStart=>
     refine⟨R k,0,HR.out k,by decide,rfl,?_,?_,hbe⟩
     ·show 0|||U S (R k)=U S (R k)
      rw[Nat.zero_or]
     ·refine HAT.out.congr fun j _=>?_
      unfold upd
      by_cases e:j=k
      ·subst e;simp
      ·simp[e]
    case round=>
     obtain⟨y,acc,hy,hacc,rfl,hU,hati,hbi⟩:=hrel
     have hzlt:=Zhr y
     by_cases hy0:y=0
     ·subst hy0
      have HATI:=jh hati
      clear hati hzlt
      go_wp2_with fail
      go_roundw
      case rel=>
       refine⟨k+1,by omega,by go_num,?_,hbi⟩
       refine HATI.out.congr fun j _=>?_
       have hU2:=hU.out
       rw[Yl2,Nat.or_zero] at hU2
       unfold upd
       by_cases e:j=k
       ·subst e;rw[if_pos rfl,if_pos (by omega),hU2]
       ·rw[if_neg e]
        show(if j<k then U S (R j) else 0)=_
        by_cases e2:j<k
        ·rw[if_pos e2,if_pos (by omega)]
        ·rw[if_neg e2,if_neg (by omega)]
      case measure=>simp[intOf];omega
     ·have hyb:((y:Int)!=0)=true:=by simpa using hy0
      have hy1:1<=y:=by omega
      have hz:=hzlt hy0 hy
      have HTZ:=jh (Zuk y wr.drew (fun k hk=>(hbi.cell (p:=⟨0,k,none⟩) (by show 0<_;exact Nat.lt_of_le_of_lt (Nat.zero_le _) HB.out.lt)).trans (HTAB.out k hk)) hy0 (Zly hy))
      have hc1:=(HC.out.below hbi HC.out.lt).ci (Lib.ctz 64 y) hz
      have hfz:=hati.frozen (1+k)
      have hd:wr.cell? ⟨w.heap.size,1+k,none⟩=some (.int .u64 acc):=by
       have:=hati.ci k hlt
       unfold upd at this
       rwa [if_pos rfl] at this
      have HATI:=jh hati
      have HY0:=jh hy0
      clear hati hzlt hy0
      have hand:bits .and .u64 (y:Int) ((y:Int)-1)=((y&&&(y-1):Nat):Int):=by
       have:=bits_and_u64_nat y (y-1) (Zly hy) (by omega)
       rwa [Int.ofNat_sub hy1] at this
      have hor:bits .or .u64 (acc:Int) (S (Lib.ctz 64 y):Int)=((acc|||S (Lib.ctz 64 y):Nat):Int):=bits_or_u64_nat _ _ (Zly hacc) (Zly (HS.out _))
      have HST:=jh (Yl3 S y HS.out HY0.out hy)
      generalize Lib.ctz 64 y=z at *
      have hzi:(z:Int)<40:=by omega
      have hki:(k:Int)<40:=by omega
      go_wp2_with fail
      refine wp_region_still_tail 17 (by kernel_rfl) (by kernel_rfl) ?_
      simp only[List.take_succ_cons,List.take_zero,List.drop_succ_cons,List.drop_zero]
      show wpStill _ _ wr.drew (fun a'=>wpList _ _ _ _ a' wr.drew) _ _
      repeat still_step
      still_call (HTZ.out.mono fun e w' h=>⟨h.1,h.2.symm⟩)
      repeat still_step
      refine wpStill_nil ?_
      go_wp2_with fail
      go_roundw
      case rel=>
       refine⟨y&&&(y-1),acc|||S z,?_,?_,rfl,?_,?_,?_⟩
       ·exact Nat.lt_of_lt_of_le (Zfx y HY0.out) (by omega)
       ·exact Nat.or_lt_two_pow hacc (HS.out _)
       ·show _=_
        rw[<- hU.out,HST.out,Nat.or_assoc]
       ·refine((HATI.out.set k (acc|||S z)).drew).congr fun j _=>?_
        unfold upd
        by_cases e:j=k
        ·subst e;simp
        ·simp[e]
       ·exact(hbi.setCell (Nat.le_refl _) _).drew
      case measure=>
       have:=Zfx y HY0.out
       simp[intOf];omega
   ·have hk40:40<=k:=by omega
    have HAT:=jh hat
    clear hat
    go_wp2_with fail
    go_ret
    exact⟨rfl,HAT.out.congr fun i hi=>by rw[if_pos (by omega)],hbe⟩
end Go.Proofs.YthcnhbclagegeaaGreatDoor
namespace Go.Proofs.YthcnhbclagegeaaGreatDoor
open Go.RowKit RelA
namespace RelA
def Zpn (R:Nat->Nat):Nat->Nat:=fun j=>Zhd (fun i=>(R i).testBit j) 40
def BK (R:Nat->Nat) (k x y:Nat):Nat->Nat:=fun j=>Zhd (fun i=>(decide (i<k)&&(R i).testBit j)||(decide (i=k)&&(x.testBit j&&!y.testBit j))) 40
theorem Yr6 (R:Nat->Nat) (k x y j:Nat):BK R k x y j<2 ^ 40:=Zh3 _ _
theorem Zhf (R:Nat->Nat) (k x y j i:Nat):(BK R k x y j).testBit i=(decide (i<40)&&((decide (i<k)&&(R i).testBit j)||(decide (i=k)&&(x.testBit j&&!y.testBit j)))):=Zbi _ _ _
theorem Yhi (R:Nat->Nat) (j:Nat):BK R 0 0 0 j=0:=by
 apply Nat.eq_of_testBit_eq;intro i;rw[Zhf];simp
theorem Yb7 (R:Nat->Nat) (k j:Nat):BK R k 0 0 j=BK R k (R k) (R k) j:=by
 apply Nat.eq_of_testBit_eq;intro i;rw[Zhf,Zhf];cases (R k).testBit j<;>simp
theorem Yl4 (R:Nat->Nat) (k j:Nat):BK R k (R k) 0 j=BK R (k+1) 0 0 j:=by
 apply Nat.eq_of_testBit_eq;intro i;rw[Zhf,Zhf]
 by_cases e:i=k
 ·subst e;simp
 ·by_cases h:i<k
  ·have:i<k+1:=by omega
   simp[h,this,e]
  ·have:¬ i<k+1:=by omega
   simp[h,this,e]
theorem Yhk (R:Nat->Nat) (k:Nat) (hk:40<=k) (j:Nat):BK R k 0 0 j=Zpn R j:=by
 apply Nat.eq_of_testBit_eq;intro i;rw[Zhf];unfold Zpn;rw[Zbi]
 by_cases h:i<40
 ·have:i<k:=by omega
  simp[h,this]
 ·simp[h]
theorem Yhj (R:Nat->Nat) (k x y:Nat) (hk:k<40) (h0:¬ y=0) (hy:y<2 ^ 40) (hU:∀ j,y.testBit j=true->x.testBit j=true) (j:Nat) :
  BK R k x (y&&&(y-1)) j=upd (BK R k x y) (Lib.ctz 64 y) (BK R k x y (Lib.ctz 64 y)|||2 ^ k) j:=by
 have hb:=Zjp y h0 (by omega)
 apply Nat.eq_of_testBit_eq
 intro i
 unfold upd
 rw[Zhf,(hb j).1]
 by_cases e:j=Lib.ctz 64 y
 ·rw[if_pos e,Nat.testBit_or,Zhf,Nat.testBit_two_pow]
  have hx:=hU _ (hb 0).2
  rw[e,hx]
  by_cases ei:i=k
  ·subst ei;simp[hk]
  ·have:¬ k=i:=fun h=>ei h.symm
   simp[ei,this]
 ·rw[if_neg e,Zhf]
  simp[e]
end RelA
theorem Yb5 (b n:Nat) (R:Nat->Nat) (w:World) (hb:At w b n R) (hR:∀ i,R i<2 ^ 40) (htab:Tab w) :
  Calls Tryz.prog 182 #[.pointer (some ⟨b,0,none⟩)] w fun e w'=>e=.returned (.pointer (some ⟨w.heap.size,0,none⟩))/\At w' w.heap.size n (Zpn R)/\Below w.heap.size w w':=by
 have hb0:=hb.c0
 have HR:=jh hR
 have HB:=jh hb
 have HTAB:=jh htab
 clear hR hb htab
 go_enter Tryz.func182,Tryz.ntmps182
 go_wp2_with ((with_reducible refine Zbz rfl _ rfl b n R rfl (HB.out.below jb HB.out.lt) ?_))
 go_loopw [16] (fun i wr=>∃ k:Nat,k<=40/\i=.int .i64 k/\At wr w.heap.size n (BK R k 0 0)/\Below w.heap.size w wr) (fun i _=>40-(intOf i).toNat)
 case atStart=>
  refine⟨0,Nat.zero_le _,rfl,?_,jb⟩
  exact(Zfr w n n rfl).congr fun j _=>(Yhi R j).symm
 case round=>
  obtain⟨k,hk,rfl,hat,hbe⟩:=hrel
  by_cases hlt:k<40
  ·obtain⟨wo,rfl⟩:∃ wo:World,wo=wr:=⟨_,rfl⟩
   have hix:=Zcj R k hlt
   have hdk:decide ((k:Int)<40)=true:=by simp;omega
   have HAT:=jh hat
   clear hat
   go_wp2_with fail
   go_loopw [5] (fun x wi=>∃ y:Nat,y<2 ^ 40/\x=.int .u64 y/\Hid (∀ j,y.testBit j=true->(R k).testBit j=true)/\At wi w.heap.size n (BK R k (R k) y)/\Below w.heap.size w wi) (fun x _=>(intOf x).toNat)
   case atStart=>
    exact⟨R k,HR.out k,rfl,(fun j h=>h:∀ j,(R k).testBit j=true->(R k).testBit j=true),HAT.out.congr fun j _=>Yb7 R k j,hbe⟩
   case round=>
    obtain⟨y,hy,rfl,hU,hati,hbi⟩:=hrel
    have hzlt:=Zhr y
    by_cases hy0:y=0
    ·subst hy0
     have HATI:=jh hati
     clear hati hzlt
     go_wp2_with fail
     go_roundw
     case rel=>
      refine⟨k+1,by omega,by go_num,?_,hbi⟩
      exact HATI.out.congr fun j _=>Yl4 R k j
     case measure=>simp[intOf];omega
    ·have hyb:((y:Int)!=0)=true:=by simpa using hy0
     have hy1:1<=y:=by omega
     have hz:=hzlt hy0 hy
     have HTZ:=jh (Zuk y wr.drew (fun k hk=>(hbi.cell (p:=⟨0,k,none⟩) (by show 0<_;exact Nat.lt_of_le_of_lt (Nat.zero_le _) HB.out.lt)).trans (HTAB.out k hk)) hy0 (Zly hy))
     have hd:=hati.ci (Lib.ctz 64 y) hz
     have hfz:=hati.frozen (1+Lib.ctz 64 y)
     have HATI:=jh hati
     have HY0:=jh hy0
     clear hati hzlt hy0
     have hand:bits .and .u64 (y:Int) ((y:Int)-1)=((y&&&(y-1):Nat):Int):=by
      have:=bits_and_u64_nat y (y-1) (Zly hy) (by omega)
      rwa [Int.ofNat_sub hy1] at this
     have hlt':=Yr6 R k (R k) y (Lib.ctz 64 y)
     have hor:bits .or .u64 (BK R k (R k) y (Lib.ctz 64 y):Int) (IntKind.u64.wrap (2 ^ k))=((BK R k (R k) y (Lib.ctz 64 y)|||2 ^ k:Nat):Int):=by
      rw[Zul k (by omega)]
      exact bits_or_u64_nat _ _ (Zly hlt') (Zly (Nat.pow_lt_pow_right (by omega) hlt))
     have HST:=jh (Yhj R k (R k) y hlt HY0.out hy hU.out)
     clear hlt'
     generalize Lib.ctz 64 y=z at *
     have hzi:(z:Int)<40:=by omega
     have hki:(k:Int)<40:=by omega
     go_wp2_with fail
     refine wp_region_still_tail 13 (by kernel_rfl) (by kernel_rfl) ?_
     simp only[List.take_succ_cons,List.take_zero,List.drop_succ_cons,List.drop_zero]
     show wpStill _ _ wr.drew (fun a'=>wpList _ _ _ _ a' wr.drew) _ _
     repeat still_step
     still_call (HTZ.out.mono fun e w' h=>⟨h.1,h.2.symm⟩)
     repeat still_step
     refine wpStill_nil ?_
     go_wp2_with fail
     go_roundw
     case rel=>
      refine⟨y&&&(y-1),?_,rfl,?_,?_,?_⟩
      ·exact Nat.lt_of_lt_of_le (Zfx y HY0.out) (by omega)
      ·intro j hj
       refine hU.out j ?_
       rw[Nat.testBit_and,Bool.and_eq_true] at hj
       exact hj.1
      ·refine((HATI.out.set z (BK R k (R k) y z|||2 ^ k)).drew).congr fun j _=>(HST.out j).symm
      ·exact(hbi.setCell (Nat.le_refl _) _).drew
     case measure=>
      have:=Zfx y HY0.out
      simp[intOf];omega
  ·have hk40:40<=k:=by omega
   have HAT:=jh hat
   clear hat
   go_wp2_with fail
   go_ret
   exact⟨rfl,HAT.out.congr fun i hi=>Yhk R k hk40 i,hbe⟩
end Go.Proofs.YthcnhbclagegeaaGreatDoor
namespace Go.Proofs.YthcnhbclagegeaaGreatDoor
open Go.RowKit RelA
namespace RelA
def Zei (w:World) (b:Nat):Array Value:=match w.heap[b]? with | some (.cells cs _ _)=>cs.extract 1 41 | _=>#[]
def Zmb (w:World) (b:Nat):Prop:=∃ n R,At w b n R
theorem At.is {w:World} {b n:Nat} {R:Nat->Nat} (h:At w b n R):Zmb w b:=⟨n,R,h⟩
theorem At.rows {w:World} {b n:Nat} {R:Nat->Nat} (h:At w b n R):Zei w b=Za3 R:=by
 unfold Zei
 rw[h]
 show(cells n R).extract 1 41=Za3 R
 unfold cells Za3
 apply Array.ext'
 rw[Array.toList_extract]
 show List.take 40 (List.map (fun i=>Value.int IntKind.u64 (R i:Int)) (List.range 40))=_
 rw[List.take_of_length_le (by simp)]
theorem Zkq (w:World) (b:Nat) (h:Zmb w b):(Instr.loadAt 65 (.pointer (some ⟨b,1,none⟩))).run Tryz.prog w=.ok (.agg (Zei w b)) w:=by
 obtain⟨n,R,h⟩:=h
 rw[h.rows]
 simp only[Instr.loadAt,Instr.sureAddr,Sem.run_bind,Sem.run_pure,Result.andThen_ok,Zfb h]
def Zr6 (v:Value):Sem Next:=execOp (fun _=>v) { dst:=none,op:=.load 65 (.tmp 0),type:=65,pos := "", after:=#[],guard:=none }
theorem execOp_load_rows (a:Act) (dst:Option Tmp) (x:Operand) (ty:TypeId) (pos:String) (after:Array Edge) (guard:Option (Nat×Bool)) :
  execOp a.eval { dst,op:=.load 65 x,type:=ty,pos,after,guard }=Zr6 (a.eval x):=rfl
theorem run_loadRows (w:World) (b:Nat) (h:Zmb w b):(Zr6 (.pointer (some ⟨b,1,none⟩))).run Tryz.prog w=.ok (.value (.agg (Zei w b))) w:=by
 show((Instr.loadAt 65 (.pointer (some ⟨b,1,none⟩))) >>= fun v=>pure (Next.value v)).run Tryz.prog w=_
 rw[Sem.run_bind,Zkq w b h]
 rfl
def Zgf (xs:Array Value):Prop:=∃ R,xs=Za3 R
theorem At.isRows {w:World} {b n:Nat} {R:Nat->Nat} (h:At w b n R):Zgf (Zei w b):=⟨R,h.rows⟩
def Znt:Value->Int | .int _ n=>n | _=>0
def Zny (xs ys:Array Value):Bool:=(List.range 40).all fun i=>Znt (xs.getD i undef)==Znt (ys.getD i undef)
def Zy1 (d:Nat) (elem:TypeId) (n:Nat) (xs ys:Array Value):List Nat->Sem Bool
 | []=>pure true
 | i::is=>do
  let a <- part elem xs (i*n)
  let b <- part elem ys (i*n)
  let r <- Op.equalIn d elem a b
  if (!r)=true then pure false else Zy1 d elem n xs ys is
theorem Zry (R S:Nat->Nat) (w:World) (d i:Nat) (hi:i<40):(part 63 (Za3 R) (i*1)).run Tryz.prog w=.ok (.int .u64 (R i)) w /\
  (part 63 (Za3 S) (i*1)).run Tryz.prog w=.ok (.int .u64 (S i)) w/\(Op.equalIn (d+1) 63 (.int .u64 (R i)) (.int .u64 (S i))).run Tryz.prog w=.ok ((R i:Int)==(S i:Int)) w:=by
 have hu:Tryz.prog.underlying 63=some (.int .u64):=by kernel_rfl
 refine⟨?_,?_,run_equalIn_int (P:=Tryz.prog) w d 63 .u64 .u64 (R i) (S i) hu⟩
 ·have:=Zb0 R i hi
  simp[part,this]
 ·have:=Zb0 S i hi
  simp[part,this]
theorem Zw5 (R S:Nat->Nat) (w:World) (d:Nat):∀ l:List Nat,(∀ i∈l,i<40)->(Zy1 (d+1) 63 1 (Za3 R) (Za3 S) l).run Tryz.prog w=.ok (l.all fun i=>Znt ((Za3 R).getD i undef)==Znt ((Za3 S).getD i undef)) w:=by
 intro l
 induction l with
 | nil=>intro _;rfl
 | cons i l ih=>
  intro h
  have hi:i<40:=h i (by simp)
  have hx:(Za3 R).getD i undef=.int .u64 (R i):=by rw[Array.getD_eq_getD_getElem?,Zb0 R i hi];rfl
  have hy:(Za3 S).getD i undef=.int .u64 (S i):=by rw[Array.getD_eq_getD_getElem?,Zb0 S i hi];rfl
  obtain⟨px,py,he⟩:=Zry R S w d i hi
  rw[List.all_cons,hx,hy]
  simp only[Zy1,Sem.run_bind,px,py,he,Result.andThen_ok,Znt]
  cases ((R i:Int)==(S i:Int))
  ·rfl
  ·simp only[Bool.not_true,Bool.false_eq_true,if_false,Bool.true_and]
   exact ih fun j hj=>h j (by simp[hj])
theorem Ziw (d:Nat) (R S:Nat->Nat) (w:World):(Op.equalIn (d+2) 65 (.agg (Za3 R)) (.agg (Za3 S))).run Tryz.prog w=.ok (Zny (Za3 R) (Za3 S)) w:=by
 have hu:Tryz.prog.underlying 65=some (.array 40 63):=by kernel_rfl
 have hz:(sizeOf 63).run Tryz.prog w=.ok 1 w:=by kernel_rfl
 have key:=Zw5 R S w d (List.range 40) (fun i hi=>List.mem_range.1 hi)
 rw[Op.equalIn]
 simp only[Sem.run_bind,run_underlying hu,Result.andThen_ok,hz]
 rw[Std.Legacy.Range.forIn_eq_forIn_range']
 have hr:List.range' 0 40 1=List.range 40:=rfl
 show((Sem.run Tryz.prog (forIn (List.range' 0 40 1) _ _) w).andThen _)=_
 rw[hr]
 refine Eq.trans ?_ key
 have hall:∀ i∈List.range 40,i<40:=fun i hi=>List.mem_range.1 hi
 generalize List.range 40=l at hall
 clear key
 induction l with
 | nil=>rfl
 | cons i l ih=>
  obtain⟨px,py,he⟩:=Zry R S w d i (hall i (by simp))
  simp only[List.forIn_cons,Zy1,Sem.run_bind,px,py,he,Result.andThen_ok]
  cases ((R i:Int)==(S i:Int))
  ·rfl
  ·simp only[Bool.not_true,Bool.false_eq_true,if_false,Sem.run_pure,Result.andThen_ok]
   exact ih fun j hj=>hall j (by simp[hj])
theorem run_equalIn_rows (xs ys:Array Value) (w:World) (hx:Zgf xs) (hy:Zgf ys):(Op.equalIn 10000 65 (.agg xs) (.agg ys)).run Tryz.prog w=.ok (Zny xs ys) w:=by
 obtain⟨R,rfl⟩:=hx
 obtain⟨S,rfl⟩:=hy
 exact Ziw 9998 R S w
end RelA
end Go.Proofs.YthcnhbclagegeaaGreatDoor
namespace Go.Proofs.YthcnhbclagegeaaGreatDoor
open Go.RowKit RelA
namespace RelA
def Zpj (R S:Nat->Nat):Bool:=(List.range 40).all fun i=>R i==S i
theorem Zhw (R S:Nat->Nat):Zpj R S=true↔∀ i,i<40->R i=S i:=by
 unfold Zpj;simp
theorem Zoe (R S:Nat->Nat):Zny (Za3 R) (Za3 S)=Zpj R S:=by
 unfold Zny
 rw[Bool.eq_iff_iff,Zhw,List.all_eq_true]
 constructor
 ·intro h i hi
  have:=h i (List.mem_range.2 hi)
  rw[Array.getD_eq_getD_getElem?,Zb0 R i hi,Array.getD_eq_getD_getElem?,Zb0 S i hi] at this
  have h2:=eq_of_beq this
  exact Int.ofNat.inj h2
 ·intro h i hi
  have hi:=List.mem_range.1 hi
  rw[Array.getD_eq_getD_getElem?,Zb0 R i hi,Array.getD_eq_getD_getElem?,Zb0 S i hi,h i hi]
  simp
def inR (R S:Nat->Nat):Bool:=Zpj (fun i=>R i|||S i) S
end RelA
section
attribute [local go_sem ↓] Go.wp_at_zero Go.wp_at_succ RelA.execOp_load_rows
attribute [local go_sem] RelA.run_loadRows RelA.run_equalIn_rows
theorem Yk6 (b n c m:Nat) (R S:Nat->Nat) (w:World) (hb:At w b n R) (hc:At w c m S) (hR:∀ i,R i<2 ^ 40) (hS:∀ i,S i<2 ^ 40) :
  Calls Tryz.prog 189 #[.pointer (some ⟨b,0,none⟩),.pointer (some ⟨c,0,none⟩)] w fun e w'=>e=.returned (.bool (inR R S))/\Below w.heap.size w w':=by
 have H:=jh (Zuu b n c m R S w.drew hb hc hR hS)
 have hi1:Zmb w.drew c:=hc.is
 have hr1:Zgf (Zei w.drew c):=hc.isRows
 clear hR hS
 have HB:=jh hb
 have HC:=jh hc
 clear hb hc
 go_enter Tryz.func189,Tryz.ntmps189
 go_wp2_with fail
 go_region_with ((go_at_call 122;refine H.out.mono ?_;rintro e w1 ⟨rfl,hat,hbe⟩;have hi2:Zmb w1 w.heap.size:=hat.is;have hr2:Zgf (Zei w1 w.heap.size):=hat.isRows;have hi3:Zmb w1 c:=(HC.out.drew.below hbe HC.out.lt).is;have hr3:Zgf (Zei w1 c):=(HC.out.drew.below hbe HC.out.lt).isRows))
 all_goals go_wp2_with fail
 all_goals go_ret
 all_goals
  have e1:Zei w1 w.heap.size=Za3 _:=hat.rows
  have e2:Zei w1 c=Za3 S:=(HC.out.drew.below hbe HC.out.lt).rows
  have e3:Zei w.drew c=Za3 S:=HC.out.drew.rows
 all_goals refine⟨?_,⟨hbe.os,hbe.tape,hbe.output,hbe.size,hbe.block⟩⟩
 all_goals
  unfold inR
  rw[<- Zoe]
  first
   | (rw[<- e1,<- e2];rfl)
   | (rw[<- e1,<- e3];rfl)
end
end Go.Proofs.YthcnhbclagegeaaGreatDoor
