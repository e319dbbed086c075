/-
  Lists of numbers in memory, their order, and what mem.compare says of two. Conditions: the lists in memory.
-/
import Derived.Test.YteghpophcnehgaaProg
import Derived.Test.YteghpophcnehgaaChecked
import Derived.WalkKit
import Derived.ProofKit
import Derived.Lib.Hide
import Derived.Deep.QuietTactic
import Derived.BigQuiet
import Derived.IntWalk
import Derived.RowKit3
import Derived.Shelf.SlSortCmp.Kit1
import Derived.Sort.Defs
import Derived.Laws.AppendOwn
import Derived.Lib.Walk
import Derived.Lib.SliceRun
namespace Go.Proofs.Yteghpophcnehgaa
open Go.RowKit
namespace Mem
def NsIn (w:World) (a:Option Addr) (L:List Int):Prop:=
 L=[] ∨ ∃ b o,a=some ⟨b,o,none⟩∧b < w.heap.size∧∀ q,q < L.length→w.cell? ⟨b,o + q,none⟩=some (.int .i64 (L.getD q 0))
theorem cell_next {x:Addr} {v:Value} {w w':World} (h:w.cell? x=some v) (hb:Below w.heap.size w w'):w'.cell? x=some v:=(hb.cell (p:=x) (World.block_lt_of_cell? w x h)).trans h
theorem NsIn.next {w w':World} {a:Option Addr} {L:List Int} (h:NsIn w a L) (hb:Below w.heap.size w w'):NsIn w' a L:=by
 rcases h with h | ⟨b,o,h1,h2,h3⟩
 ·exact .inl h
 ·exact .inr ⟨b,o,h1,Nat.lt_of_lt_of_le h2 hb.size,fun q hq=>cell_next (h3 q hq) hb⟩
structure Ls where
 a:Option Addr
 L:List Int
 c:Nat
def Ls.zero:Ls:=⟨none,[],0⟩
def Ls.v (x:Ls):Value:=.slice x.a x.L.length x.c
def cmpI (x y:Int):Int:=if x < y then -1 else if x > y then 1 else 0
def cmpL:List Int→List Int→Int
 | [],[]=>0
 | [],_::_=>-1
 | _::_,[]=>1
 | x::l,y::r=>if x=y then cmpL l r else cmpI x y
theorem cmpI_self (x:Int):cmpI x x=0:=by unfold cmpI; simp
theorem cmpI_ne {x y:Int} (h:x ≠ y):cmpI x y ≠ 0:=by unfold cmpI; split <;> (try split) <;> omega
theorem cmpI_zero {x y:Int} (h:cmpI x y=0):x=y:=by
 by_cases e:x=y
 ·exact e
 ·exact absurd h (cmpI_ne e)
def Same (k:Nat) (l r:List Int):Prop:=∀ j,j < k→l.getD j 0=r.getD j 0
theorem cmpL_at:∀ (k:Nat) (l r:List Int),Same k l r→k < l.length→k < r.length→l.getD k 0 ≠ r.getD k 0→cmpL l r=cmpI (l.getD k 0) (r.getD k 0)
 | 0,x::l,y::r,_,_,_,h=>by
  have h':x ≠ y:=h
  show (if x=y then cmpL l r else cmpI x y)=cmpI x y
  rw [if_neg h']
 | k + 1,x::l,y::r,hs,h1,h2,h=>by
  have h0:x=y:=hs 0 (by omega)
  show (if x=y then cmpL l r else cmpI x y)=_
  rw [if_pos h0]
  exact cmpL_at k l r (fun j hj=>hs (j + 1) (by omega)) (by simpa using h1) (by simpa using h2) h
theorem cmpL_end:∀ (k:Nat) (l r:List Int),Same k l r→(k=l.length ∨ k=r.length)→k≤l.length→k≤r.length→cmpL l r=cmpI l.length r.length
 | 0,[],[],_,_,_,_=>by simp [cmpL,cmpI]
 | 0,[],y::r,_,_,_,_=>by
  show (-1:Int)=cmpI _ _
  unfold cmpI
  rw [if_pos (by simp)]
 | 0,x::l,[],_,_,_,_=>by
  show (1:Int)=cmpI _ _
  unfold cmpI
  rw [if_neg (by simp; omega),if_pos (by simp)]
 | 0,x::l,y::r,_,h,_,_=>by simp at h
 | k + 1,x::l,y::r,hs,h,h1,h2=>by
  have h0:x=y:=hs 0 (by omega)
  show (if x=y then cmpL l r else cmpI x y)=_
  rw [if_pos h0,cmpL_end k l r (fun j hj=>hs (j + 1) (by omega)) (by simpa using h) (by simpa using h1) (by simpa using h2)]
  unfold cmpI
  simp
 | k + 1,[],_,_,_,h1,_=>by simp at h1
 | k + 1,_::_,[],_,_,_,h2=>by simp at h2
end Mem
open Mem
set_option maxRecDepth 20000 in
theorem nan_l (x:Int) (w:World):Calls Try.prog 72 #[.int .i64 x] w fun e w'=>e=.returned (.bool false)∧w=w':=by
 have h:(x != x)=false:=by simp
 go_enter Try.func72,Try.ntmps72
 go_wp2_with fail
 go_ret
 exact ⟨rfl,rfl⟩
set_option maxRecDepth 20000 in
set_option maxHeartbeats 1600000 in
theorem cmp_l (x y:Int) (w:World):Calls Try.prog 44 #[.int .i64 x,.int .i64 y] w fun e w'=>e=.returned (.int .i64 (cmpI x y))∧w=w':=by
 have HX:=Lib.hid (nan_l x w)
 have HY:=Lib.hid (nan_l y w)
 unfold cmpI
 by_cases h1:x < y
 ·rw [if_pos h1]
  have l1:decide (x < y)=true:=by simp [h1]
  go_enter Try.func44,Try.ntmps44
  go_wp2_with fail
  refine HX.out.mono ?_
  rintro e w' ⟨rfl,rfl⟩
  go_wp2_with fail
  refine HY.out.mono ?_
  rintro e w' ⟨rfl,rfl⟩
  go_wp2_with fail
  go_ret
  exact ⟨rfl,rfl⟩
 ·rw [if_neg h1]
  have l1:decide (x < y)=false:=by simp [h1]
  by_cases h2:x > y
  ·rw [if_pos h2]
   have l2:decide (x > y)=true:=by simp [h2]
   go_enter Try.func44,Try.ntmps44
   go_wp2_with fail
   refine HX.out.mono ?_
   rintro e w' ⟨rfl,rfl⟩
   go_wp2_with fail
   refine HY.out.mono ?_
   rintro e w' ⟨rfl,rfl⟩
   go_wp2_with fail
   go_ret
   exact ⟨rfl,rfl⟩
  ·rw [if_neg h2]
   have l2:decide (x > y)=false:=by simp [h2]
   go_enter Try.func44,Try.ntmps44
   go_wp2_with fail
   refine HX.out.mono ?_
   rintro e w' ⟨rfl,rfl⟩
   go_wp2_with fail
   refine HY.out.mono ?_
   rintro e w' ⟨rfl,rfl⟩
   go_wp2_with fail
   go_ret
   exact ⟨rfl,rfl⟩
theorem drewN_drewN (w:World) (a b:Nat):(w.drewN a).drewN b=w.drewN (a + b):=by
 simp [World.drewN,Nat.add_assoc]
theorem below_drewN {B:Nat} {w w':World} (h:Below B w w') (n:Nat):Below B w (w'.drewN n):=⟨h.os,h.tape,h.output,h.size,h.block⟩
theorem ns_drewN {w:World} {a:Option Addr} {L:List Int} (h:NsIn w a L) (n:Nat):NsIn (w.drewN n) a L:=h.next (below_drewN (Below.refl _ _) n)
set_option maxRecDepth 20000 in
set_option maxHeartbeats 3200000 in
theorem compare_l (x y:Ls) (w:World) (hx:NsIn w x.a x.L) (hy:NsIn w y.a y.L) (hl:x.L.length≤1000000) (hr:y.L.length≤1000000) :
  Calls Try.prog 26 #[x.v,y.v] w fun e w'=>e=.returned (.int .i64 (cmpL x.L y.L))∧∃ q,w'=w.drewN q:=by
 obtain ⟨xa,l,xc⟩:=x
 obtain ⟨ya,r,yc⟩:=y
 unfold Ls.v
 dsimp only at hx hy hl hr ⊢
 obtain ⟨R,hR⟩:∃ R,R=cmpL l r:=⟨_,rfl⟩
 rw [← hR]
 have HAT:=Lib.hid (fun k (h:Same k l r) (h1:k < l.length) (h2:k < r.length) (h3:l.getD k 0 ≠ r.getD k 0)=>hR.trans (cmpL_at k l r h h1 h2 h3))
 have HEN:=Lib.hid (fun k (h:Same k l r) (h0:k=l.length ∨ k=r.length) (h1:k≤l.length) (h2:k≤r.length)=>hR.trans (cmpL_end k l r h h0 h1 h2))
 clear hR
 have HX:=Lib.hid hx
 have HY:=Lib.hid hy
 clear hx hy
 by_cases hc:r.length < l.length
 ·have hci:(r.length:Int) < (l.length:Int):=by omega
  go_enter Try.func26,Try.ntmps26
  go_wp2_with fail
  go_loopw [12] (fun i wr=>∃ k q:Nat,k≤r.length∧i=.int .i64 k∧Hid (Same k l r)∧Hid (wr=w.drewN q)) (fun i _=>r.length - (intOf i).toNat)
  case atStart=>exact ⟨0,0,Nat.zero_le _,rfl,Lib.hid (fun j hj=>absurd hj (by omega)),Lib.hid rfl⟩
  case round=>
   obtain ⟨k,q,hk,rfl,HS,hwr⟩:=hrel
   have HXw:=Lib.hid (hwr.out ▸ ns_drewN HX.out q)
   have HYw:=Lib.hid (hwr.out ▸ ns_drewN HY.out q)
   by_cases hlt:k < r.length
   ·have hkl:k < l.length:=by omega
    have hkr:k < r.length:=by omega
    have d0:decide ((k:Int) < (r.length:Int))=true:=by simp; omega
    have i1:(k:Int) < (l.length:Int):=by omega
    have i2:(k:Int) < (r.length:Int):=by omega
    rcases HXw.out with h0 | ⟨b1,o1,rfl,hb1,hc1⟩
    ·rw [h0] at hkl; simp at hkl
    rcases HYw.out with h0 | ⟨b2,o2,rfl,hb2,hc2⟩
    ·rw [h0] at hkr; simp at hkr
    have c1:=hc1 k hkl
    have c2:=hc2 k hkr
    clear hc1 hc2 HXw HYw
    have HSX:Hid (l.getD k 0=r.getD k 0→Same (k + 1) l r):=Lib.hid (fun h j hj=>by
     by_cases e:j=k
     ·rw [e]; exact h
     ·exact HS.out j (by omega))
    have HRX:=Lib.hid (fun h=>HAT.out k HS.out hkl hkr h)
    generalize l.getD k 0=x at *
    generalize r.getD k 0=y at *
    have HCM:=Lib.hid (fun w=>cmp_l x y w)
    by_cases hxy:x=y
    ·subst hxy
     have HSY:=Lib.hid (HSX.out rfl)
     clear HSX HRX
     have e0:cmpI x x=0:=cmpI_self x
     rw [e0] at HCM
     go_wp2_with fail
     go_quiet ((go_at_call 44; exact Calls.quiet_of_same ((HCM.out _).mono fun _ _ h=>⟨h.1,h.2.symm⟩)))
     go_wp2_with fail
     go_roundw
     case rel=>exact ⟨k + 1,q + nq,by omega,by go_num,HSY,Lib.hid (by rw [hwr.out]; exact drewN_drewN w q nq)⟩
     case measure=>simp [intOf]; omega
    ·have e0:(cmpI x y != 0)=true:=by simpa using cmpI_ne hxy
     have e1:=HRX.out hxy
     rw [← e1] at HCM e0
     clear e1 HRX HSX
     go_wp2_with fail
     go_quiet ((go_at_call 44; exact Calls.quiet_of_same ((HCM.out _).mono fun _ _ h=>⟨h.1,h.2.symm⟩)))
     go_wp2_with fail
     go_ret
     exact ⟨rfl,q + nq,by rw [hwr.out]; exact drewN_drewN w q nq⟩
   ·have hkm:k=r.length:=by omega
    have d0:decide ((k:Int) < (r.length:Int))=false:=by simp; omega
    have HCM:=Lib.hid (fun w=>cmp_l (l.length:Int) (r.length:Int) w)
    rw [← HEN.out k HS.out (by omega) (by omega) (by omega)] at HCM
    go_wp2_with fail
    refine (HCM.out _).mono ?_
    rintro e w' ⟨rfl,rfl⟩
    go_wp2_with fail
    go_ret
    exact ⟨rfl,q,hwr.out⟩
 ·have hci:¬ (r.length:Int) < (l.length:Int):=by omega
  go_enter Try.func26,Try.ntmps26
  go_wp2_with fail
  go_loopw [12] (fun i wr=>∃ k q:Nat,k≤l.length∧i=.int .i64 k∧Hid (Same k l r)∧Hid (wr=w.drewN q)) (fun i _=>l.length - (intOf i).toNat)
  case atStart=>exact ⟨0,0,Nat.zero_le _,rfl,Lib.hid (fun j hj=>absurd hj (by omega)),Lib.hid rfl⟩
  case round=>
   obtain ⟨k,q,hk,rfl,HS,hwr⟩:=hrel
   have HXw:=Lib.hid (hwr.out ▸ ns_drewN HX.out q)
   have HYw:=Lib.hid (hwr.out ▸ ns_drewN HY.out q)
   by_cases hlt:k < l.length
   ·have hkl:k < l.length:=by omega
    have hkr:k < r.length:=by omega
    have d0:decide ((k:Int) < (l.length:Int))=true:=by simp; omega
    have i1:(k:Int) < (l.length:Int):=by omega
    have i2:(k:Int) < (r.length:Int):=by omega
    rcases HXw.out with h0 | ⟨b1,o1,rfl,hb1,hc1⟩
    ·rw [h0] at hkl; simp at hkl
    rcases HYw.out with h0 | ⟨b2,o2,rfl,hb2,hc2⟩
    ·rw [h0] at hkr; simp at hkr
    have c1:=hc1 k hkl
    have c2:=hc2 k hkr
    clear hc1 hc2 HXw HYw
    have HSX:Hid (l.getD k 0=r.getD k 0→Same (k + 1) l r):=Lib.hid (fun h j hj=>by
     by_cases e:j=k
     ·rw [e]; exact h
     ·exact HS.out j (by omega))
    have HRX:=Lib.hid (fun h=>HAT.out k HS.out hkl hkr h)
    generalize l.getD k 0=x at *
    generalize r.getD k 0=y at *
    have HCM:=Lib.hid (fun w=>cmp_l x y w)
    by_cases hxy:x=y
    ·subst hxy
     have HSY:=Lib.hid (HSX.out rfl)
     clear HSX HRX
     have e0:cmpI x x=0:=cmpI_self x
     rw [e0] at HCM
     go_wp2_with fail
     go_quiet ((go_at_call 44; exact Calls.quiet_of_same ((HCM.out _).mono fun _ _ h=>⟨h.1,h.2.symm⟩)))
     go_wp2_with fail
     go_roundw
     case rel=>exact ⟨k + 1,q + nq,by omega,by go_num,HSY,Lib.hid (by rw [hwr.out]; exact drewN_drewN w q nq)⟩
     case measure=>simp [intOf]; omega
    ·have e0:(cmpI x y != 0)=true:=by simpa using cmpI_ne hxy
     have e1:=HRX.out hxy
     rw [← e1] at HCM e0
     clear e1 HRX HSX
     go_wp2_with fail
     go_quiet ((go_at_call 44; exact Calls.quiet_of_same ((HCM.out _).mono fun _ _ h=>⟨h.1,h.2.symm⟩)))
     go_wp2_with fail
     go_ret
     exact ⟨rfl,q + nq,by rw [hwr.out]; exact drewN_drewN w q nq⟩
   ·have hkm:k=l.length:=by omega
    have d0:decide ((k:Int) < (l.length:Int))=false:=by simp; omega
    have HCM:=Lib.hid (fun w=>cmp_l (l.length:Int) (r.length:Int) w)
    rw [← HEN.out k HS.out (by omega) (by omega) (by omega)] at HCM
    go_wp2_with fail
    refine (HCM.out _).mono ?_
    rintro e w' ⟨rfl,rfl⟩
    go_wp2_with fail
    go_ret
    exact ⟨rfl,q,hwr.out⟩
end Go.Proofs.Yteghpophcnehgaa
namespace Go.Proofs.Yteghpophcnehgaa
open Go.RowKit
namespace Mem
theorem cmpI_flip (x y:Int):cmpI y x=- cmpI x y:=by
 unfold cmpI
 split <;> split <;> (try split) <;> (try split) <;> omega
theorem cmpL_flip:∀ l r:List Int,cmpL r l=- cmpL l r
 | [],[]=>rfl
 | [],_::_=>rfl
 | _::_,[]=>rfl
 | x::l,y::r=>by
  show (if y=x then cmpL r l else cmpI y x)=- (if x=y then cmpL l r else cmpI x y)
  by_cases h:x=y
  ·rw [if_pos h,if_pos h.symm]; exact cmpL_flip l r
  ·rw [if_neg h,if_neg (fun e=>h e.symm)]; exact cmpI_flip x y
theorem cmpL_self:∀ l:List Int,cmpL l l=0
 | []=>rfl
 | x::l=>by
  show (if x=x then cmpL l l else cmpI x x)=0
  rw [if_pos rfl]; exact cmpL_self l
theorem cmpL_eq:∀ {l r:List Int},cmpL l r=0→l=r
 | [],[],_=>rfl
 | [],_::_,h=>by cases h
 | _::_,[],h=>by cases h
 | x::l,y::r,h=>by
  have h':(if x=y then cmpL l r else cmpI x y)=0:=h
  by_cases e:x=y
  ·rw [if_pos e] at h'; rw [e,cmpL_eq h']
  ·rw [if_neg e] at h'; exact absurd (cmpI_zero h') e
theorem cmpI_lt {x y:Int}:cmpI x y < 0 ↔ x < y:=by
 unfold cmpI; split <;> (try split) <;> omega
def Lt (l r:List Int):Prop:=cmpL l r < 0
theorem lt_cons {x y:Int} {l r:List Int}:Lt (x::l) (y::r) ↔ x < y ∨ (x=y∧Lt l r):=by
 show (if x=y then cmpL l r else cmpI x y) < 0 ↔ _
 by_cases e:x=y
 ·rw [if_pos e]; simp [e,Lt]
 ·rw [if_neg e,cmpI_lt]; simp [e]
theorem lt_nil {l:List Int}:¬ Lt l []:=by
 cases l <;> (unfold Lt cmpL; decide)
theorem nil_lt {x:Int} {l:List Int}:Lt [] (x::l):=by unfold Lt cmpL; decide
theorem lt_trans:∀ {a b c:List Int},Lt a b→Lt b c→Lt a c
 | _,[],_,h,_=>absurd h lt_nil
 | _,_::_,[],_,h=>absurd h lt_nil
 | [],_::_,_::_,_,_=>nil_lt
 | x::a,y::b,z::c,h,g=>by
  rw [lt_cons] at h g ⊢
  rcases h with h | ⟨rfl,h⟩
  ·rcases g with g | ⟨rfl,g⟩
   ·exact .inl (by omega)
   ·exact .inl h
  ·rcases g with g | ⟨rfl,g⟩
   ·exact .inl g
   ·exact .inr ⟨rfl,lt_trans h g⟩
theorem lt_irrefl (l:List Int):¬ Lt l l:=by unfold Lt; rw [cmpL_self]; decide
theorem tri (l r:List Int):Lt l r ∨ l=r ∨ Lt r l:=by
 rcases Int.lt_trichotomy (cmpL l r) 0 with h | h | h
 ·exact .inl h
 ·exact .inr (.inl (cmpL_eq h))
 ·exact .inr (.inr (by unfold Lt; rw [cmpL_flip]; omega))
def cfL (C:Nat→List Int) (i j:Nat):Int:=cmpL (C i) (C j)
theorem swo (C:Nat→List Int):Go.Sort.SWO (ltOf (cfL C)):=by
 have key:∀ i j,ltOf (cfL C) i j=true ↔ Lt (C i) (C j):=fun i j=>by unfold ltOf cfL Lt; simp
 have keyn:∀ i j,ltOf (cfL C) i j=false ↔ ¬ Lt (C i) (C j):=fun i j=>by rw [← key]; simp
 refine ⟨fun x=>?_,fun x y z h g=>?_,fun x y z h g=>?_⟩
 ·rw [keyn]; exact lt_irrefl _
 ·rw [key] at *; exact lt_trans h g
 ·rw [keyn] at *
  intro q
  rcases tri (C x) (C y) with a | a | a
  ·exact h a
  ·rw [a] at q; exact g q
  ·exact g (lt_trans a q)
def LsIn (w:World) (a:Option Addr) (C:List Ls):Prop:=
 C=[] ∨ ∃ b o,a=some ⟨b,o,none⟩∧b < w.heap.size∧∀ q,q < C.length→w.cell? ⟨b,o + q,none⟩=some (C.getD q Ls.zero).v∧NsIn w (C.getD q Ls.zero).a (C.getD q Ls.zero).L
theorem LsIn.next {w w':World} {a:Option Addr} {C:List Ls} (h:LsIn w a C) (hb:Below w.heap.size w w'):LsIn w' a C:=by
 rcases h with h | ⟨b,o,h1,h2,h3⟩
 ·exact .inl h
 ·exact .inr ⟨b,o,h1,Nat.lt_of_lt_of_le h2 hb.size,fun q hq=>⟨cell_next (h3 q hq).1 hb,(h3 q hq).2.next hb⟩⟩
end Mem
end Go.Proofs.Yteghpophcnehgaa
namespace Go.Proofs.Yteghpophcnehgaa
open Go.RowKit Mem
namespace Mem
theorem own_next {w w':World} {base:Nat} {e:TypeId} {size:Nat} {v:Value} {n:Nat} {xs:List Value} (h:w.ownsRow base e size v n xs) (hb:Below w.heap.size w w'):w'.ownsRow base e size v n xs:=by
 obtain ⟨hl,h0 | ⟨g,cap,cur,h1,h2,h3,h4⟩⟩:=h
 ·exact ⟨hl,.inl h0⟩
 ·exact ⟨hl,.inr ⟨g,cap,cur,h1,h2,(hb.block g (Array.getElem?_eq_some_iff.1 h3).1).trans h3,h4⟩⟩
theorem below_next {B:Nat} {w1 w2 w3:World} (h:Below B w1 w2) (g:Below w2.heap.size w2 w3) (hs:B≤w2.heap.size):Below B w1 w3:=h.trans (g.mono hs)
theorem own_cell {w:World} {base:Nat} {e:TypeId} {n:Nat} {xs:List Value} {g cap:Nat} (h:w.ownsRow base e 1 (.slice (some ⟨g,0,none⟩) n cap) n xs) (q:Nat) (u:Value) (hq:xs[q]?=some u):w.cell? ⟨g,0 + q,none⟩=some u∧g < w.heap.size:=by
 obtain ⟨hl,⟨h0,_⟩ | ⟨g',cap',cur,h1,h2,h3,_,_,h5,h6⟩⟩:=h
 ·cases h0
 ·cases h1
  refine ⟨?_,(Array.getElem?_eq_some_iff.1 h3).1⟩
  rw [cell_of_row _ _ _ _ _ _ h3]
  rw [← h6] at hq
  rw [List.getElem?_take] at hq
  split at hq
  ·rw [Nat.zero_add]; simpa using hq
  ·cases hq
theorem own_len {w:World} {base:Nat} {e:TypeId} {v:Value} {n:Nat} {xs:List Value} (h:w.ownsRow base e 1 v n xs):∃ a c,v=.slice a n c∧(n=0 ∨ ∃ g,a=some ⟨g,0,none⟩∧base≤g∧g < w.heap.size):=by
 obtain ⟨_,⟨rfl,rfl⟩ | ⟨g,c,cur,rfl,h2,h3,_⟩⟩:=h
 ·exact ⟨none,0,rfl,.inl rfl⟩
 ·exact ⟨_,c,rfl,.inr ⟨g,rfl,h2,(Array.getElem?_eq_some_iff.1 h3).1⟩⟩
def ivs (L:List Int):List Value:=L.map fun x=>.int .i64 x
theorem own_ns {w:World} {base:Nat} {e:TypeId} {v:Value} {L:List Int} (h:w.ownsRow base e 1 v L.length (ivs L)):∃ a c,v=Ls.v ⟨a,L,c⟩∧NsIn w a L∧(L=[] ∨ ∃ g,a=some ⟨g,0,none⟩∧base≤g):=by
 obtain ⟨a,c,rfl,h0 | ⟨g,rfl,hb,hg⟩⟩:=own_len h
 ·exact ⟨a,c,rfl,.inl (List.length_eq_zero_iff.1 h0),.inl (List.length_eq_zero_iff.1 h0)⟩
 ·refine ⟨_,c,rfl,.inr ⟨g,0,rfl,hg,fun q hq=>?_⟩,.inr ⟨g,rfl,hb⟩⟩
  refine (own_cell h q _ ?_).1
  unfold ivs
  rw [List.getElem?_map,List.getElem?_eq_getElem hq,List.getD_eq_getElem?_getD,List.getElem?_eq_getElem hq]
  rfl
theorem info3:(Try.prog.info? 3).map (fun i=>(i.zero,i.size,i.bytes))=some (some (.int .i64 0),1,8):=by kernel_rfl
theorem info23:(Try.prog.info? 22).map (fun i=>(i.zero,i.size,i.bytes))=some (some (.slice none 0 0),1,24):=by kernel_rfl
theorem ns_news {w:World} {b o:Nat} {L:List Int} (h:∀ q,q < L.length→w.cell? ⟨b,o + q,none⟩=some (.int .i64 (L.getD q 0))):∀ j u,(ivs L)[j]?=some u→w.cell? ((⟨b,o,none⟩:Addr).add j)=some u:=by
 intro j u hj
 unfold ivs at hj
 rw [List.getElem?_map] at hj
 obtain ⟨x,hx,rfl⟩:=Option.map_eq_some_iff.1 hj
 have hq:=(List.getElem?_eq_some_iff.1 hx).1
 rw [Addr.add_lit,h j hq,List.getD_eq_getElem?_getD,hx]
 rfl
end Mem
set_option maxRecDepth 20000 in
set_option maxHeartbeats 1600000 in
theorem clone_l (x:Ls) (w:World) (hx:NsIn w x.a x.L) (hl:x.L.length≤1000000) :
  Calls Try.prog 27 #[x.v] w fun e w'=>∃ a c,e=.returned (Ls.v ⟨a,x.L,c⟩)∧NsIn w' a x.L∧(x.L=[] ∨ ∃ g,a=some ⟨g,0,none⟩∧w.heap.size≤g)∧Below w.heap.size w w':=by
 obtain ⟨xa,L,xc⟩:=x
 unfold Ls.v
 dsimp only at hx hl ⊢
 obtain ⟨i0,hi,hz0,hz1,hz2⟩:=info_parts info3
 cases xa with
 | none=>
  have h0:L=[]:=by
   rcases hx with h | ⟨b,o,h,_⟩
   ·exact h
   ·cases h
  subst h0
  have q22:∀ (w:World) (a:Option Addr) (n c n' c':Nat),(binOp .eql 22 (.slice a n c) (.slice none n' c')).run Try.prog w=.ok (.bool a.isNone) w:=fun w a n c n' c'=>Lib.run_eql_slice_nil w _ _ a n c n' c' Try.underlying22
  go_enter Try.func27,Try.ntmps27
  go_wp2_with fail
  go_ret
  exact ⟨none,0,rfl,.inl rfl,.inl (by simp),Below.refl _ _⟩
 | some ad=>
  have hn:∀ w' o,w'=w.alloc o→∀ j u,(ivs L)[j]?=some u→w'.cell? (ad.add j)=some u:=by
   rintro w' o rfl
   rcases hx with h | ⟨b,o2,h,hb,hc⟩
   ·subst h; intro j u hj; simp [ivs] at hj
   ·cases h
    exact ns_news fun q hq=>cell_next (hc q hq) ((Below.refl _ _).alloc (Nat.le_refl _) o)
  have HN:=Lib.hid hn
  have HL:=Lib.hid (show (ivs L).length=L.length * 1 by simp [ivs])
  have H1:=Lib.hid (show ∀ u ∈ ivs L,u.oneCell'=true by
   intro u hu
   obtain ⟨x,_,rfl⟩:=List.mem_map.1 hu
   rfl)
  clear hn hx
  have q22:∀ (w:World) (a:Option Addr) (n c n' c':Nat),(binOp .eql 22 (.slice a n c) (.slice none n' c')).run Try.prog w=.ok (.bool a.isNone) w:=fun w a n c n' c'=>Lib.run_eql_slice_nil w _ _ a n c n' c' Try.underlying22
  go_enter Try.func27,Try.ntmps27
  go_wp2_with (at_builtin; refine wpList_append_own _ rfl _ _ 22 rfl w.heap.size 3 i0 (.int .i64 0) 1 8 Try.underlying22 hi hz0 hz1 hz2 rfl (by decide) _ _ _ rfl (World.ownsRow_made w #[] 0 (Nat.le_refl _) (Nat.zero_le _) rfl) ad L.length xc (ivs L) rfl HL.out (HN.out _ _ rfl) H1.out (by unfold maxLen; omega) (by omega) (by simp) ?_; intro v' w1 hown hgrow hnil; have HO:=Lib.hid hown; have HG:=Lib.hid hgrow; clear hown hgrow hnil)
  go_ret
  rw [Nat.zero_add,List.nil_append] at HO
  obtain ⟨a,c,rfl,h,hn⟩:=own_ns HO.out
  exact ⟨a,c,rfl,h,hn,((Below.refl _ w).alloc (Nat.le_refl _) _).grown HG.out (by simp) (by intro k hk; cases hk; simp)⟩
namespace Mem
def lvs (C:List Ls):List Value:=C.map Ls.v
theorem ls_news {w:World} {b o:Nat} {C:List Ls} (h:∀ q,q < C.length→w.cell? ⟨b,o + q,none⟩=some (C.getD q Ls.zero).v):∀ j u,(lvs C)[j]?=some u→w.cell? ((⟨b,o,none⟩:Addr).add j)=some u:=by
 intro j u hj
 unfold lvs at hj
 rw [List.getElem?_map] at hj
 obtain ⟨x,hx,rfl⟩:=Option.map_eq_some_iff.1 hj
 have hq:=(List.getElem?_eq_some_iff.1 hx).1
 rw [Addr.add_lit,h j hq,List.getD_eq_getElem?_getD,hx]
 rfl
end Mem
set_option maxRecDepth 20000 in
set_option maxHeartbeats 1600000 in
theorem cloneL_l (a:Option Addr) (C:List Ls) (c:Nat) (w:World) (hx:LsIn w a C) (hl:C.length≤1000000) (hc0:a=none→C=[]∧c=0) :
  Calls Try.prog 24 #[.slice a C.length c] w fun e w'=>∃ v,e=.returned v∧w'.ownsRow w.heap.size 22 1 v C.length (lvs C)∧Below w.heap.size w w':=by
 obtain ⟨i0,hi,hz0,hz1,hz2⟩:=info_parts info23
 cases a with
 | none=>
  obtain ⟨rfl,rfl⟩:=hc0 rfl
  have q22:∀ (w:World) (a:Option Addr) (n c n' c':Nat),(binOp .eql 35 (.slice a n c) (.slice none n' c')).run Try.prog w=.ok (.bool a.isNone) w:=fun w a n c n' c'=>Lib.run_eql_slice_nil w _ _ a n c n' c' Try.underlying35
  go_enter Try.func24,Try.ntmps24
  go_wp2_with fail
  go_ret
  exact ⟨_,rfl,⟨rfl,.inl ⟨rfl,rfl⟩⟩,Below.refl _ _⟩
 | some ad=>
  have hn:∀ w' o,w'=w.alloc o→∀ j u,(lvs C)[j]?=some u→w'.cell? (ad.add j)=some u:=by
   rintro w' o rfl
   rcases hx with h | ⟨b,o2,h,hb,hc⟩
   ·subst h; intro j u hj; simp [lvs] at hj
   ·cases h
    exact ls_news fun q hq=>cell_next (hc q hq).1 ((Below.refl _ _).alloc (Nat.le_refl _) o)
  have HN:=Lib.hid hn
  have HL:=Lib.hid (show (lvs C).length=C.length * 1 by simp [lvs])
  have H1:=Lib.hid (show ∀ u ∈ lvs C,u.oneCell'=true by
   intro u hu
   obtain ⟨x,_,rfl⟩:=List.mem_map.1 hu
   rfl)
  clear hn hx hc0
  have q22:∀ (w:World) (a:Option Addr) (n c n' c':Nat),(binOp .eql 35 (.slice a n c) (.slice none n' c')).run Try.prog w=.ok (.bool a.isNone) w:=fun w a n c n' c'=>Lib.run_eql_slice_nil w _ _ a n c n' c' Try.underlying35
  go_enter Try.func24,Try.ntmps24
  go_wp2_with (at_builtin; refine wpList_append_own _ rfl _ _ 35 rfl w.heap.size 22 i0 (.slice none 0 0) 1 24 Try.underlying35 hi hz0 hz1 hz2 rfl (by decide) _ _ _ rfl (World.ownsRow_made w #[] 0 (Nat.le_refl _) (Nat.zero_le _) rfl) ad C.length c (lvs C) rfl HL.out (HN.out _ _ rfl) H1.out (by unfold maxLen; omega) (by omega) (by simp) ?_; intro v' w1 hown hgrow hnil; have HO:=Lib.hid hown; have HG:=Lib.hid hgrow; clear hown hgrow hnil)
  go_ret
  rw [Nat.zero_add,List.nil_append] at HO
  exact ⟨_,rfl,HO.out,((Below.refl _ w).alloc (Nat.le_refl _) _).grown HG.out (by simp) (by intro k hk; cases hk; simp)⟩
end Go.Proofs.Yteghpophcnehgaa
namespace Go.Proofs.Yteghpophcnehgaa
open Go.RowKit Mem
open Go.Sort (SWO PermIn SortedIn putRow putCells mapBlock onCells Holds grow)
namespace Mem
def SortC:Prop:=∀ (enc:Nat→Value) (_:OneCell enc) (cf:Nat→Nat→Int) (_:SWO (ltOf cf)) (blk off cap:Nat) (d:Array Nat) (w:World)
  (_:CmpLays1 Try.prog 26 #[] enc cf blk off d.size w) (_:Holds enc w blk off d) (_:blk < w.heap.size) (_:d.size < 4611686018427387904),
  Calls Try.prog 25 #[.slice (some ⟨blk,off,none⟩) d.size cap,.func (.func 26) #[] #[]] w fun e w'=>
   e=.returned (.tuple #[])∧∃ d' n os,PermIn 0 d.size d d'∧SortedIn (ltOf cf) 0 d.size d'∧w'=sortWorld enc w blk off n d' os
def SortN:Prop:=∀ (p:Option Addr) (cap:Nat) (w:World),Calls Try.prog 25 #[.slice p 0 cap,.func (.func 26) #[] #[]] w fun e w'=>e=.returned (.tuple #[])∧w'=w
theorem sw_heap (enc:Nat→Value) (w:World) (g m:Nat) (dk:Array Nat) (os:Array Obj):(sortWorld enc w g 0 m dk os).heap=w.heap.modify g (onCells (putCells enc 0 dk)) ++ os:=rfl
theorem below_sw {w0 w:World} (h:Below w0.heap.size w0 w) {g:Nat} (hg:w0.heap.size≤g) (enc:Nat→Value) (m:Nat) (dk:Array Nat) (os:Array Obj):Below w0.heap.size w0 (sortWorld enc w g 0 m dk os):=by
 refine ⟨h.os,h.tape,h.output,?_,fun k hk=>?_⟩
 ·rw [sw_heap]
  have:=h.size
  simp
  omega
 ·rw [sw_heap,← h.block k hk]
  have hs:=h.size
  rw [Array.getElem?_append_left (by simp; omega),Array.getElem?_modify,if_neg (by omega)]
theorem range_get (n j:Nat) (h:j < n):(List.range n).toArray[j]! = j:=by
 rw [getElem!_pos _ _ (by simpa using h)]
 simp
theorem getD_map {C:List Ls}:(List.range C.length).map (fun i=>C.getD i Ls.zero)=C:=by
 apply List.ext_getElem
 ·simp
 ·intro i h1 h2
  simp [List.getD_eq_getElem?_getD,List.getElem?_eq_getElem h2]
theorem compare_sw (C:List Ls) (w0 w:World) (a:Option Addr) (hin:LsIn w0 a C) (hl:∀ q,q < C.length→(C.getD q Ls.zero).L.length≤1000000) (h:Below w0.heap.size w0 w) (g:Nat) (hg:w0.heap.size≤g) (n:Nat) :
  CmpLays1 Try.prog 26 #[] (fun i=>(C.getD i Ls.zero).v) (cfL fun i=>(C.getD i Ls.zero).L) g 0 n w:=by
 intro m os dk _ x y
 have hx:∀ i w',Below w0.heap.size w0 w'→NsIn w' (C.getD i Ls.zero).a (C.getD i Ls.zero).L:=fun i w' hb=>by
  rcases Nat.lt_or_ge i C.length with q | q
  ·rcases hin with rfl | ⟨b,o,_,_,h3⟩
   ·simp at q
   ·exact (h3 i q).2.next hb
  ·rw [List.getD_eq_getElem?_getD,List.getElem?_eq_none q]; exact .inl rfl
 have hlx:∀ i,(C.getD i Ls.zero).L.length≤1000000:=fun i=>by
  rcases Nat.lt_or_ge i C.length with q | q
  ·exact hl i q
  ·rw [List.getD_eq_getElem?_getD,List.getElem?_eq_none q]; simp [Ls.zero]
 have hB:=below_sw h hg (fun i=>(C.getD i Ls.zero).v) m dk os
 refine (compare_l (C.getD x Ls.zero) (C.getD y Ls.zero) _ (hx x _ hB) (hx y _ hB) (hlx x) (hlx y)).mono ?_
 rintro e w' ⟨rfl,q,rfl⟩
 exact ⟨rfl,q,#[],by rw [Go.Sort.grow_empty]⟩
theorem sort_own (HS:SortC) (HN:SortN) (C:List Ls) (w0 w:World) (a:Option Addr) (v:Value) (hin:LsIn w0 a C) (hc:C.length≤1000000) (hl:∀ q,q < C.length→(C.getD q Ls.zero).L.length≤1000000)
  (h:Below w0.heap.size w0 w) (ho:w.ownsRow w0.heap.size 22 1 v C.length (lvs C)) :
  Calls Try.prog 25 #[v,.func (.func 26) #[] #[]] w fun e w'=>e=.returned (.tuple #[])∧∃ D:List Ls,D.Perm C∧(∀ i j,i < j→j < D.length→¬ Lt (D.getD j Ls.zero).L (D.getD i Ls.zero).L)∧w'.ownsRow w0.heap.size 22 1 v C.length (lvs D)∧Below w0.heap.size w0 w':=by
 have ho0:=ho
 obtain ⟨hlen,⟨rfl,h0⟩ | ⟨g,cap,cur,rfl,hg,h3,hn1,hn2,h5,h6⟩⟩:=ho
 ·have hC:C=[]:=List.length_eq_zero_iff.1 h0
  subst hC
  refine (HN none 0 w).mono ?_
  rintro e w' ⟨rfl,rfl⟩
  exact ⟨rfl,[],List.Perm.refl _,fun i j _ hj=>by simp at hj,ho0,h⟩
 ·have hgl:=(Array.getElem?_eq_some_iff.1 h3).1
  have hd:(List.range C.length).toArray.size=C.length:=by simp
  have hcell:∀ j,j < C.length→cur[j]?=some (C.getD j Ls.zero).v:=fun j hj=>by
   have e:(lvs C)[j]?=some (C.getD j Ls.zero).v:=by
    unfold lvs
    rw [List.getElem?_map,List.getD_eq_getElem?_getD,List.getElem?_eq_getElem hj]
    rfl
   rw [← h6,List.getElem?_take] at e
   split at e
   ·simpa using e
   ·cases e
  have hH:Holds (fun i=>(C.getD i Ls.zero).v) w g 0 (List.range C.length).toArray:=fun j hj=>by
   rw [hd] at hj
   rw [range_get _ _ hj]
   refine ⟨?_,?_⟩
   ·rw [cell_of_row _ _ _ _ _ _ h3,Nat.zero_add]; exact hcell j hj
   ·unfold World.frozen?
    simp [h3]
  have key:=HS (fun i=>(C.getD i Ls.zero).v) (fun _=>rfl) (cfL fun i=>(C.getD i Ls.zero).L) (swo _) g 0 cap (List.range C.length).toArray w (compare_sw C w0 w a hin hl h g hg _) hH hgl (by rw [hd]; omega)
  rw [hd] at key
  refine key.mono ?_
  rintro e w' ⟨rfl,d',n,os,⟨hp1,_,hp3⟩,hsrt,rfl⟩
  rw [hd] at hp1
  have hx1:(d'.extract 0 C.length).toList=d'.toList:=by simp [← hp1]
  have hx2:((List.range C.length).toArray.extract 0 C.length).toList=List.range C.length:=by simp
  rw [hx1,hx2] at hp3
  refine ⟨rfl,d'.toList.map (fun i=>C.getD i Ls.zero),?_,fun i j hij hj=>?_,?_,below_sw h hg _ _ _ _⟩
  ·exact (hp3.map _).trans (by rw [getD_map])
  ·have hj':j < d'.size:=by simpa using hj
   have:=hsrt i j (Nat.zero_le _) hij (by omega)
   rw [getElem!_pos d' j hj',getElem!_pos d' i (by omega)] at this
   unfold ltOf cfL at this
   have h2:=of_decide_eq_false this
   have e1:∀ k,k < d'.size→((d'.toList.map (fun i=>C.getD i Ls.zero)).getD k Ls.zero)=C.getD (d'[k]!) Ls.zero:=fun k hk=>by
    rw [List.getD_eq_getElem?_getD,List.getElem?_map,getElem!_pos d' k hk]
    simp [hk]
   rw [e1 j hj',e1 i (by omega),getElem!_pos d' j hj',getElem!_pos d' i (by omega)]
   exact h2
  ·refine ⟨by simp [lvs,hp1],.inr ⟨g,cap,putCells (fun i=>(C.getD i Ls.zero).v) 0 d' cur,rfl,hg,?_,hn1,hn2,by simp [putCells,h5],?_⟩⟩
   ·rw [sw_heap,Array.getElem?_append_left (by simpa using hgl),Array.getElem?_modify,if_pos rfl,h3]
    rfl
   ·apply List.ext_getElem?
    intro k
    rw [List.getElem?_take]
    unfold lvs
    rw [List.getElem?_map,List.getElem?_map,Nat.mul_one]
    by_cases hk:k < C.length
    ·have hkd:k < d'.size:=by omega
     have hkc:k < cur.size:=by omega
     rw [if_pos hk]
     simp [putCells,hkd,hkc]
    ·rw [if_neg hk,Array.getElem?_toList,Array.getElem?_eq_none (by omega)]
     rfl
end Mem
end Go.Proofs.Yteghpophcnehgaa
