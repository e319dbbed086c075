/-
  What the functions that the law reaches do, one by one: contracts. Conditions: Zcj that each of them prints.
-/
import Derived.Test.YthcnhbclagegeaaDoorMa
import Derived.OwnWalk
import Derived.Deep.AppendLies
namespace Go.Proofs.YthcnhbclagegeaaDoor
open Go.RowKit RelA
namespace RelA
theorem Tab.below {w w':World} {B:Nat} (h:Tab w) (hb:Below B w w') (h0:0 < B):Tab w':=fun k hk=>(hb.cell (p:=⟨0,k,none⟩) h0).trans (h k hk)
abbrev Yhy (R:Nat->Nat) (i j:Nat):Prop:=Relation.TransGen (fun a b=>(R a).testBit b=true) i j
open Classical in
noncomputable def Yh5 (R:Nat->Nat):Nat->Nat:=fun i=>Zhc (fun j=>decide (Yhy R i j)) 40
theorem Zzl (R:Nat->Nat) (i j:Nat):(Yh5 R i).testBit j=true ↔ j < 40/\Yhy R i j:=by
 unfold Yh5; rw [Zbe]; simp
def PInv (R T:Nat->Nat):Prop:=(∀ i,T i < 2 ^ 40)/\(∀ i j,(R i).testBit j=true->(T i).testBit j=true)/\(∀ i j,(T i).testBit j=true->Yhy R i j)
theorem Yl0 {R:Nat->Nat} (hR:∀ i,R i < 2 ^ 40) {i j:Nat} (h:Yhy R i j):j < 40:=by
 cases h with
 | single h=>exact Zhd (hR _) h
 | tail _ h=>exact Zhd (hR _) h
theorem PInv.start (R:Nat->Nat) (hR:∀ i,R i < 2 ^ 40):PInv R R:=⟨hR,fun _ _ h=>h,fun _ _ h=>.single h⟩
theorem Zub {R:Nat->Nat} {i j k:Nat} (h:Yhy R i j) (g:Yhy R j k):Yhy R i k:=by
 induction g with
 | single g=>exact .tail h g
 | tail _ g ih=>exact .tail ih g
theorem PInv.step {R T:Nat->Nat} (h:PInv R T):PInv R (fun i=>T i ||| U T (T i)):=by
 obtain ⟨h1,h2,h3⟩:=h
 refine ⟨fun i=>Nat.or_lt_two_pow (h1 i) (Xhx _ _),fun i j hj=>?_,fun i j hj=>?_⟩
 ·show (T i ||| U T (T i)).testBit j=true
  rw [Nat.testBit_or,h2 i j hj]; rfl
 ·have hj:(T i ||| U T (T i)).testBit j=true:=hj
  rw [Nat.testBit_or,Bool.or_eq_true,Zwi] at hj
  rcases hj with hj | ⟨_,k,_,a,b⟩
  ·exact h3 i j hj
  ·exact Zub (h3 _ _ a) (h3 _ _ b)
theorem PInv.done {R T:Nat->Nat} (hR:∀ i,R i < 2 ^ 40) (h:PInv R T) (he:∀ i,i < 40->(T i ||| U T (T i))=T i) (i:Nat) (hi:i < 40):(T i ||| U T (T i))=Yh5 R i:=by
 obtain ⟨h1,h2,h3⟩:=h
 rw [he i hi]
 apply Nat.eq_of_testBit_eq
 intro j
 rw [Bool.eq_iff_iff,Zzl]
 constructor
 ·intro hj; exact ⟨Zhd (h1 i) hj,h3 i j hj⟩
 ·rintro ⟨hj,hp⟩
  clear hj
  induction hp with
  | single h=>exact h2 _ _ h
  | @tail b c hab hbc ih=>
   have hb40:=Yl0 hR hab
   have:(T i ||| U T (T i)).testBit c=true:=by
    rw [Nat.testBit_or,Bool.or_eq_true,Zwi]
    exact .inr ⟨Zhd (hR _) hbc,b,hb40,ih,h2 _ _ hbc⟩
   rwa [he i hi] at this
end RelA
section
attribute [local go_sem ↓] Go.wp_at_zero Go.wp_at_succ RelA.execOp_load_rows
attribute [local go_sem] RelA.run_loadRows RelA.run_equalIn_rows
end
end Go.Proofs.YthcnhbclagegeaaDoor
namespace Go.Proofs.YthcnhbclagegeaaDoor
open Go.RowKit RelA
namespace RelA
end RelA
section
attribute [local go_sem ↓] Go.wp_at_zero Go.wp_at_succ RelA.execOp_load_rows
attribute [local go_sem] RelA.run_loadRows RelA.run_equalIn_rows
end
theorem RelA.and127 (z:Int):∃ k:Nat,k < 128/\bits .and .i64 z 127=(k:Int):=by
 refine ⟨(BitVec.ofInt 64 z).toNat &&& 127,?_,?_⟩
 ·have:(BitVec.ofInt 64 z).toNat &&& 127<=127:=Nat.and_le_right
  omega
 ·show IntKind.i64.wrap ((BitVec.ofInt 64 z &&& BitVec.ofInt 64 127).toNat:Int)=_
  have e:(BitVec.ofInt 64 127).toNat=127:=by decide
  rw [BitVec.toNat_and,e,IntKind.wrap_i64]
  have:(BitVec.ofInt 64 z).toNat &&& 127<=127:=Nat.and_le_right
  omega
set_option maxRecDepth 20000 in
set_option maxHeartbeats 800000 in
theorem Yds (x:Nat) (w:World) :
  Calls Tryd.prog 35 #[.int .u64 x] w fun e w'=>(∃ k:Nat,k < 128/\e=.returned (.int .i64 k))/\w=w':=by
 go_enter Tryd.func35,Tryd.ntmps35
 go_wp2_with fail
 go_ret
 refine ⟨?_,rfl⟩
 show ∃ k:Nat,k < 128/\Ending.returned (Value.int .i64 (bits .and .i64 _ 127))=_
 obtain ⟨k,hk,he⟩:=and127 _
 exact ⟨k,hk,by rw [he]⟩
end Go.Proofs.YthcnhbclagegeaaDoor
namespace Go.Proofs.YthcnhbclagegeaaDoor
open Go.RowKit RelA
namespace RelA
theorem Yox (x:Nat) (h0:x ≠ 0) (hx:x < 2 ^ 64) (j:Nat) (hj:j < Lib.ctz 64 x):x.testBit j=false:=by
 obtain ⟨m,hm,hk⟩:=Lib.ctzFrom_spec 64 x (by omega) hx
 have e:Lib.ctz 64 x=Lib.ctzFrom 64 x:=by simp [Lib.ctz,h0]
 rw [e] at hj
 generalize Lib.ctzFrom 64 x=k at *
 rw [hm,Nat.testBit_two_pow_mul]
 have:¬ k<=j:=by omega
 simp [this]
def Ze1 (x:Nat):List Nat:=(List.range 40).filter fun j=>x.testBit j
theorem Ziq:Ze1 0=[]:=by unfold Ze1; simp
theorem Zp2 (x:Nat) (h0:x ≠ 0) (hx:x < 2 ^ 40):Ze1 x=Lib.ctz 64 x::Ze1 (x &&& (x - 1)):=by
 have hz:=Zhn x h0 hx
 have hb:=Zjb x h0 (by omega)
 have hl:=Yox x h0 (by omega)
 generalize Lib.ctz 64 x=z at *
 unfold Ze1
 have hr:List.range 40=List.range' 0 z ++ (z::List.range' (z + 1) (40 - z - 1)):=by
  rw [List.range_eq_range']
  have e1:(40:Nat)=z + ((40 - z - 1) + 1):=by omega
  have:=List.range'_append_1 (s:=0) (m:=z) (n:=(40 - z - 1) + 1)
  rw [Nat.zero_add,List.range'_succ] at this
  rw [this]
  congr 1
 rw [hr,List.filter_append,List.filter_append,List.filter_cons,List.filter_cons]
 have f1:(List.range' 0 z).filter (fun j=>x.testBit j)=[]:=by
  rw [List.filter_eq_nil_iff]
  intro a ha
  have:=List.mem_range'_1.1 ha
  rw [hl a (by omega)]; simp
 have f2:(List.range' 0 z).filter (fun j=>(x &&& (x - 1)).testBit j)=[]:=by
  rw [List.filter_eq_nil_iff]
  intro a ha
  have:=List.mem_range'_1.1 ha
  rw [(hb a).1,hl a (by omega)]; simp
 rw [f1,f2,(hb 0).2,(hb z).1]
 simp only [List.nil_append,if_true,ne_eq,not_true_eq_false,decide_false,Bool.and_false,Bool.false_eq_true,if_false,List.cons.injEq,true_and]
 apply List.filter_congr
 intro a ha
 have:=List.mem_range'_1.1 ha
 rw [(hb a).1]
 have:a ≠ z:=by omega
 simp [this]
def Zbx (i x:Nat):List (Nat × Nat):=(Ze1 x).map fun j=>(i,j)
def pre (R:Nat->Nat) (k:Nat):List (Nat × Nat):=(List.range k).flatMap fun i=>Zbx i (R i)
def Zgb (R:Nat->Nat):List (Nat × Nat):=pre R 40
theorem Znp (R:Nat->Nat) (k:Nat):pre R (k + 1)=pre R k ++ Zbx k (R k):=by
 unfold pre; rw [List.range_succ,List.flatMap_append]; simp
theorem Zpy (i x:Nat):(Zbx i x).length<=40:=by
 unfold Zbx Ze1
 rw [List.length_map]
 have:=List.length_filter_le (fun j=>x.testBit j) (List.range 40)
 simpa using this
theorem Yly (R:Nat->Nat) (k:Nat):(pre R k).length<=40 * k:=by
 induction k with
 | zero=>simp [pre]
 | succ k ih=>
  rw [Znp,List.length_append]
  have:=Zpy k (R k)
  omega
def Zax (l:List (Nat × Nat)):List Value:=l.flatMap fun p=>[.int .i64 p.1,.int .i64 p.2]
theorem Zbf (l:List (Nat × Nat)) (a b:Nat):Zax (l ++ [(a,b)])=Zax l ++ [.int .i64 a,.int .i64 b]:=by
 unfold Zax; rw [List.flatMap_append]; rfl
theorem Zim:(Tryd.prog.info? 41).map (fun i=>(i.zero,i.size,i.bytes))=some (some (.agg #[.int .i64 0,.int .i64 0]),2,16):=by kernel_rfl
end RelA
set_option maxRecDepth 20000 in
set_option maxHeartbeats 1600000 in
theorem Zkf (b n:Nat) (R:Nat->Nat) (w:World) (hb:At w b n R) (hR:∀ i,R i < 2 ^ 40) (htab:Tab w) :
  Calls Tryd.prog 11 #[.pointer (some ⟨b,0,none⟩)] w fun e w'=>∃ v,e=.returned v/\w'.ownsRow w.heap.size 41 2 v (Zgb R).length (Zax (Zgb R))/\Below w.heap.size w w':=by
 have HR:=Lib.hid hR
 have HB:=Lib.hid hb
 have HTAB:=Lib.hid htab
 clear hR hb htab
 obtain ⟨i0,hi,hz0,hz1,hz2⟩:=info_parts Zim
 go_enter Tryd.func11,Tryd.ntmps11
 go_wp2_with ((with_reducible refine Zcg rfl _ rfl b n R rfl HB.out ?_))
 go_loop [3,13] (fun s i=>∃ k N:Nat,k<=40/\N<=128 * k/\s=.int .i64 N/\i=.int .i64 k) (fun _ i=>40 - (intOf i).toNat)
 case atStart=>exact ⟨0,0,by omega,by omega,rfl,rfl⟩
 case round=>
  obtain ⟨k,N,hk,hN,rfl,rfl⟩:=hrel
  by_cases hlt:k < 40
  ·have hix:=Zc5 R k hlt
   go_wp2_with fail
   refine (Yds (R k) _).mono ?_
   rintro e w' ⟨⟨q,hq,rfl⟩,rfl⟩
   go_wp2_with fail
   go_round
   case rel=>exact ⟨k + 1,N + q,by omega,by omega,by go_num,by go_num⟩
   case measure=>simp [intOf]; omega
  ·go_wp2_with (first
    | (at_make; refine wpList_make_own _ rfl _ _ 26 rfl w.heap.size 41 i0 (.agg #[.int .i64 0,.int .i64 0]) 2 Tryd.underlying26 hi hz0 hz1 .i64 .i64 _ N rfl rfl (by rfl) (by rw [hz2]; omega) (by unfold maxLen; omega) (Nat.le_refl _) ?_; intro w0 hown0 hgrow0; have HBW:Hid (Below w.heap.size w w0):=(Below.refl _ _).grown hgrow0 (Nat.le_refl _) (fun k h=>by cases h))
    | (with_reducible refine Zcg rfl _ rfl b n R rfl (HB.out.below HBW.out HB.out.lt) ?_))
   go_loopw [6,27] (fun v i wr=>∃ k:Nat,k<=40/\i=.int .i64 k/\wr.ownsRow w.heap.size 41 2 v (pre R k).length (Zax (pre R k))/\Below w.heap.size w wr) (fun _ i _=>40 - (intOf i).toNat)
   case atStart=>exact ⟨0,Nat.zero_le _,rfl,hown0,HBW.out⟩
   case round=>
    obtain ⟨k,hk,rfl,hown,hbe⟩:=hrel
    by_cases hlt:k < 40
    ·obtain ⟨wo,rfl⟩:∃ wo:World,wo=wr:=⟨_,rfl⟩
     have hix:=Zc5 R k hlt
     have hdk:decide ((k:Int) < 40)=true:=by simp; omega
     have HOWN:=Lib.hid hown
     have HPL:=Lib.hid (Yly R (k + 1))
     clear hown
     go_wp2_with fail
     go_loopw [6,8] (fun v x wi=>∃ (y:Nat) (L:List (Nat × Nat)),y < 2 ^ 40/\x=.int .u64 y/\Hid (L ++ Zbx k y=pre R (k + 1))/\wi.ownsRow w.heap.size 41 2 v L.length (Zax L)/\Below w.heap.size w wi) (fun _ x _=>(intOf x).toNat)
     case atStart=>exact ⟨R k,pre R k,HR.out k,rfl,(show _=_ from (Znp R k).symm),HOWN.out,hbe⟩
     case round=>
      obtain ⟨y,L,hy,rfl,hL,hown,hbi⟩:=hrel
      by_cases hy0:y=0
      ·subst hy0
       have HOWNI:=Lib.hid hown
       clear hown
       go_wp2_with fail
       go_roundw
       case rel=>
        refine ⟨k + 1,by omega,by go_num,?_,hbi⟩
        have h1:=hL.out
        unfold Zbx at h1
        rw [Ziq,List.map_nil,List.append_nil] at h1
        rw [<- h1]; exact HOWNI.out
       case measure=>simp [intOf]; omega
      ·have hyb:((y:Int) != 0)=true:=by simpa using hy0
       have hy1:1<=y:=by omega
       have hz:=Zhn y hy0 hy
       have HTZ:=Lib.hid (Zwl y wr (HTAB.out.below hbi (Nat.lt_of_le_of_lt (Nat.zero_le _) HB.out.lt)) hy0 (Zp5 hy))
       have HOWNI:=Lib.hid hown
       have HY0:=Lib.hid hy0
       have hand:bits .and .u64 (y:Int) ((y:Int) - 1)=((y &&& (y - 1):Nat):Int):=by
        have:=bits_and_u64_nat y (y - 1) (Zp5 hy) (by omega)
        rwa [Int.ofNat_sub hy1] at this
       have HST:Hid (Zbx k y=(k,Lib.ctz 64 y)::Zbx k (y &&& (y - 1))):=by
        show _=_
        unfold Zbx; rw [Zp2 y hy0 hy]; rfl
       have hLlen:L.length + 1<=1640:=by
        have h1:=congrArg List.length hL.out
        have h2:=HPL.out
        have h3:=HST.out
        rw [List.length_append,h3,List.length_cons] at h1
        omega
       clear hown hy0
       generalize Lib.ctz 64 y=z at *
       have hsz:=hbi.size
       go_wp2_with fail
       refine HTZ.out.mono ?_
       rintro e w' ⟨rfl,rfl⟩
       go_wp2_with (first
        | (at_builtin; refine wpList_append_own _ rfl (.tmp 37) (.tmp 42) 26 rfl w.heap.size 41 i0 (.agg #[.int .i64 0,.int .i64 0]) 2 16 Tryd.underlying26 hi hz0 hz1 hz2 rfl (by decide) _ _ _ rfl (HOWNI.out.alloc _) ⟨wr.heap.size,0,none⟩ 1 1 [.int .i64 k,.int .i64 z] rfl rfl (World.news_of_block (cs:=#[.int .i64 k,.int .i64 z]) (t:=41) (fr:=(0,0)) (heap_alloc_new wr _)) (by simp [Value.oneCell']) (by unfold maxLen; omega) (by omega) (by simp; omega) ?_; intro v1 w1 hown1 hgrow1 hnil1; have HO1:=Lib.hid hown1; have HG1:=Lib.hid hgrow1; clear hown1 hgrow1 hnil1))
       go_roundw
       case rel=>
        refine ⟨y &&& (y - 1),L ++ [(k,z)],?_,rfl,?_,?_,?_⟩
        ·exact Nat.lt_of_lt_of_le (Zfz y HY0.out) (by omega)
        ·show _=_
         rw [<- hL.out,HST.out,List.append_assoc]; rfl
        ·rw [List.length_append,Zbf]; exact HO1.out
        ·exact (hbi.alloc hsz _).grown HG1.out (by simp; omega) (fun j hj=>(HOWNI.out.lt j hj).1)
       case measure=>
        have:=Zfz y HY0.out
        simp [intOf]; omega
    ·have hk40:k=40:=by omega
     have HK:=Lib.hid hk40
     have HOWN:=Lib.hid hown
     clear hk40 hown
     go_wp2_with fail
     go_ret
     refine ⟨_,rfl,?_,hbe⟩
     have:=HOWN.out
     rw [HK.out] at this
     exact this
end Go.Proofs.YthcnhbclagegeaaDoor
namespace Go.Proofs.YthcnhbclagegeaaDoor
open Go.RowKit RelA
namespace RelA
def Zjd (x y:Value):Sem Next:=do pure (.value (<- Instr.build 50 #[(0,x),(1,y)]))
theorem execOp_build_rel (a:Act) (dst:Option Tmp) (x y:Operand) (ty:TypeId) (pos:String) (after:Array Edge) (guard:Option (Nat × Bool)) :
  execOp a.eval { dst,op:=.build 50 #[(0,x),(1,y)],type:=ty,pos,after,guard }=Zjd (a.eval x) (a.eval y):=by
 simp [execOp,Zjd]
def Xeo (n:Int) (xs:Array Value):Array Value:=#[Value.int .i64 n] ++ xs
theorem run_buildRel (n:Int) (xs:Array Value) (w:World) (h:Zj1 xs):(Zjd (.int .i64 n) (.agg xs)).run Tryd.prog w=.ok (.value (.agg (Xeo n xs))) w:=by
 obtain ⟨R,rfl⟩:=h
 unfold Zjd
 rw [Sem.run_bind]
 have:(Instr.build 50 #[(0,.int .i64 n),(1,.agg (Zbc R))]).run Tryd.prog w=.ok (.agg (Xeo n (Zbc R))) w:=by kernel_rfl
 rw [this]; rfl
end RelA
section
attribute [local go_sem ↓] Go.wp_at_zero Go.wp_at_succ RelA.execOp_load_rows RelA.execOp_build_rel
attribute [local go_sem] RelA.run_loadRows RelA.run_buildRel
end
end Go.Proofs.YthcnhbclagegeaaDoor
namespace Go.Proofs.YthcnhbclagegeaaDoor
open Go.RowKit RelA
namespace RelA
end RelA
set_option maxRecDepth 20000 in
set_option maxHeartbeats 800000 in
theorem Yma (n:Int) (w:World) :
  Calls Tryd.prog 20 #[.int .i64 n,.slice none 0 0] w fun e w'=>e=.returned (.pointer (some ⟨w.heap.size,0,none⟩))/\At w' w.heap.size (Zaq n) (fun _=>0)/\Below w.heap.size w w':=by
 go_enter Tryd.func20,Tryd.ntmps20
 go_wp2_with fail
 all_goals
  go_loopw [15] (fun i wr=>i=.int .i64 0/\At wr w.heap.size (Zaq n) (fun _=>0)/\Below w.heap.size w wr) (fun i _=>0)
  case atStart=>
   exact ⟨rfl,Zfv w _ _ (by unfold Zaq; omega),(Below.refl _ _).alloc (Nat.le_refl _) _⟩
  case round=>
   obtain ⟨rfl,hat,hbe⟩:=hrel
   have HAT:=Lib.hid hat
   clear hat
   go_wp2_with fail
   go_ret
   exact ⟨rfl,HAT.out,hbe⟩
namespace RelA
theorem Yd0 (k k2:IntKind) (x y:Int):Builtin.max2 (.int k x) (.int k2 y)=pure (.int k (max x y)):=by
 show pure (Value.int k (if y > x then y else x))=_
 by_cases h:y > x
 ·rw [if_pos h]; congr 2; omega
 ·rw [if_neg h]; congr 2; omega
theorem Ydz (k k2:IntKind) (x y:Int):Builtin.min2 (.int k x) (.int k2 y)=pure (.int k (min x y)):=by
 show pure (Value.int k (if y < x then y else x))=_
 by_cases h:y < x
 ·rw [if_pos h]; congr 2; omega
 ·rw [if_neg h]; congr 2; omega
def Yay (x y:Value):Sem Next:=do pure (.value (<- Builtin.max2 x y))
def Yax (x y:Value):Sem Next:=do pure (.value (<- Builtin.min2 x y))
theorem execOp_max (a:Act) (dst:Option Tmp) (x y:Operand) (ty:TypeId) (pos:String) (after:Array Edge) (guard:Option (Nat × Bool)) :
  execOp a.eval { dst,op:=.call { callee:=.builtin .max,args:=#[x,y],argTypes:=#[3,3] },type:=ty,pos,after,guard }=Yay (a.eval x) (a.eval y):=by
 simp [execOp,resolve,invoke,builtin,Builtin.max_,Yay]
theorem execOp_min (a:Act) (dst:Option Tmp) (x y:Operand) (ty:TypeId) (pos:String) (after:Array Edge) (guard:Option (Nat × Bool)) :
  execOp a.eval { dst,op:=.call { callee:=.builtin .min,args:=#[x,y],argTypes:=#[3,3] },type:=ty,pos,after,guard }=Yax (a.eval x) (a.eval y):=by
 simp [execOp,resolve,invoke,builtin,Builtin.min_,Yax]
theorem run_maxOp {P:Program} (k k2:IntKind) (x y:Int) (w:World):(Yay (.int k x) (.int k2 y)).run P w=.ok (.value (.int k (max x y))) w:=by
 unfold Yay; rw [Yd0]; rfl
theorem run_minOp {P:Program} (k k2:IntKind) (x y:Int) (w:World):(Yax (.int k x) (.int k2 y)).run P w=.ok (.value (.int k (min x y))) w:=by
 unfold Yax; rw [Ydz]; rfl
theorem Zn2 (n:Int):min (max n 0) 40=(Zaq n:Int):=by unfold Zaq; omega
end RelA
namespace RelA
theorem At.next {w w':World} {b n:Nat} {R:Nat->Nat} (h:At w b n R) (hb:Below w.heap.size w w'):At w' b n R:=h.below hb h.lt
theorem Tab.pos {w:World} (h:Tab w):0 < w.heap.size:=block_lt_of_cell (h 0 (by decide))
theorem Tab.next {w w':World} (h:Tab w) (hb:Below w.heap.size w w'):Tab w':=h.below hb h.pos
theorem Zab {w w1 w2:World} (h:Below w.heap.size w w1) (g:Below w1.heap.size w1 w2):Below w.heap.size w w2:=h.trans (g.mono h.size)
theorem Yl4 {w:World} {base:Nat} {e:TypeId} {size:Nat} {v:Value} {n:Nat} {xs:List Value} (h:w.ownsRow base e size v n xs):∃ a c,v=.slice a n c:=by
 obtain ⟨_,h | ⟨g,cap,cur,h,_⟩⟩:=h
 ·exact ⟨none,0,by rw [h.1,h.2]⟩
 ·exact ⟨_,_,h⟩
theorem Zpc (n:Nat) (l:List (Int × Int)) (hn:n<=40) (i:Nat):Zrj n l i < 2 ^ 40:=Nat.lt_of_lt_of_le (Zx2 n l i) (Nat.pow_le_pow_right (by omega) hn)
end RelA
end Go.Proofs.YthcnhbclagegeaaDoor
namespace Go.Proofs.YthcnhbclagegeaaDoor
open Go.RowKit RelA
namespace RelA
theorem Ydy (N:Nat) (l:List (Int × Int)) (i j:Nat):(Zrj N l i).testBit j=true ↔ ∃ p ∈ l,inB N p.1=true/\inB N p.2=true/\p.1=i/\p.2=j:=by
 unfold Zrj
 have key:∀ (l:List (Int × Int)) (R:Nat->Nat),(l.foldl (Zdw N) R i).testBit j=true ↔ (R i).testBit j=true ∨ ∃ p ∈ l,inB N p.1=true/\inB N p.2=true/\p.1=i/\p.2=j:=by
  intro l
  induction l with
  | nil=>intro R; simp
  | cons p l ih=>
   intro R
   rw [List.foldl_cons,ih]
   have hstep:(Zdw N R p i).testBit j=true ↔ (R i).testBit j=true ∨ (inB N p.1=true/\inB N p.2=true/\p.1=i/\p.2=j):=by
    unfold Zdw
    cases h1:inB N p.1 <;> cases h2:inB N p.2 <;> simp only [Bool.and_false,Bool.and_true,Bool.false_eq_true,if_false,if_true,false_and,and_false,or_false,true_and]
    have g1:=of_decide_eq_true h1
    have g2:=of_decide_eq_true h2
    unfold upd
    by_cases e:i=p.1.toNat
    ·rw [if_pos e,<- e,Nat.testBit_or,Bool.or_eq_true,Nat.testBit_two_pow,decide_eq_true_eq]
     constructor
     ·rintro (h | h)
      ·exact .inl h
      ·exact .inr ⟨by omega,by omega⟩
     ·rintro (h | ⟨_,h⟩)
      ·exact .inl h
      ·exact .inr (by omega)
    ·rw [if_neg e]
     constructor
     ·exact .inl
     ·rintro (h | ⟨h,_⟩)
      ·exact h
      ·omega
   rw [hstep]
   constructor
   ·rintro ((h | h) | ⟨q,hq,h⟩)
    ·exact .inl h
    ·exact .inr ⟨p,by simp,h⟩
    ·exact .inr ⟨q,by simp [hq],h⟩
   ·rintro (h | ⟨q,hq,h⟩)
    ·exact .inl (.inl h)
    ·rcases List.mem_cons.1 hq with rfl | hq
     ·exact .inl (.inr h)
     ·exact .inr ⟨q,hq,h⟩
 rw [key]
 simp
def Zdr (l:List (Nat × Nat)):List (Int × Int):=l.map fun p=>((p.1:Int),(p.2:Int))
theorem Zn7 (l:List (Nat × Nat)) (i:Nat) (hi:i < l.length):(Zax l)[i * 2]?=some (.int .i64 ((Zdr l).getD i (0,0)).1)/\(Zax l)[i * 2 + 1]?=some (.int .i64 ((Zdr l).getD i (0,0)).2):=by
 induction l generalizing i with
 | nil=>simp at hi
 | cons p l ih=>
  cases i with
  | zero=>exact ⟨rfl,rfl⟩
  | succ i=>
   have:=ih i (by simpa using hi)
   have e1:(i + 1) * 2=i * 2 + 2:=by omega
   rw [e1]
   exact this
theorem Yab (l:List (Nat × Nat)):(Zdr l).length=l.length:=by simp [Zdr]
end RelA
end Go.Proofs.YthcnhbclagegeaaDoor
