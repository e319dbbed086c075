/-
  What the functions that the law reaches do, one by one: contracts. Conditions: those that each of them prints.
-/
import Derived.Test.YthcnhbclagegeaaGreatDoorMh
import Derived.BigRegion
import Derived.Deep.QuietTactic
import Derived.BigQuiet
namespace Go.Proofs.YthcnhbclagegeaaGreatDoor
open Go.RowKit RelA
namespace RelA
def evOk (locs:Int) (i:Nat) (e p:Ev):Bool:=
 if (i:Int) < locs then (((((e.th == 0) && (e.kd == 2)) && (e.md == 0)) && (e.lc == (i:Int))) && (e.vl == 0)) && !e.ex
 else if ((decide (e.th < 1)) || (decide (4 < e.th))) || (decide (0 < (i:Int)) && decide (e.th < p.th)) then false
 else if e.kd == 1 then (decide (0≤e.lc) && decide (e.lc < locs)) && ((e.md == 0) || (e.md == 1))
 else if e.kd == 2 then (decide (0≤e.lc) && decide (e.lc < locs)) && ((e.md == 0) || (e.md == 2))
 else if e.kd == 3 then ((((decide (1≤e.md) && decide (e.md≤4)) && (e.lc == 0)) && (e.vl == 0)) && !e.ex)
 else false
def evAt (g:Gr) (i:Nat):Bool:=evOk g.locs i (Ev.at g.E i) (Ev.at g.E (i - 1))
end RelA
set_option maxRecDepth 20000 in
set_option maxHeartbeats 3200000 in
theorem event_any (g:Gr) (i:Nat) (w:World) (h:EsIn w g.ea g.E) (hi:i < g.E.length) (he:g.E.length≤100) :
  Calls Tryz.prog 16 #[g.v,.int .i64 i] w fun e w'=>e=.returned (.bool (evAt g i))∧Below w.heap.size w w':=by
 unfold evAt
 have HG0:=Lib.hid (GBox.of_alloc w g 27)
 obtain ⟨G,hG⟩:∃ G,G=g:=⟨_,rfl⟩
 obtain ⟨locs,ea,E,ec,ra,R,rc,ca,C,cc,ma,Rmw,mc,da,Data,dc,ta,Ctrl,tc,ia,CtrlI,ic⟩:=g
 simp only [Gr.v,gcells] at h hi he HG0 ⊢
 rw [← hG] at HG0
 have hii:(i:Int) < (E.length:Int):=by omega
 have hi100:(i:Int) < 100:=by omega
 have z1:∀ o,Below w.heap.size w (w.alloc o):=fun o=>(Below.refl _ _).alloc (Nat.le_refl _) o
 have z2:∀ o o',Below w.heap.size w ((w.alloc o).alloc o'):=fun o o'=>below_next (z1 o) ((Below.refl _ _).alloc (Nat.le_refl _) o')
 have HBz:=Lib.hid z2
 have HBd:=Lib.hid (fun o o'=>(z2 o o').drew)
 rcases h with h0 | ⟨b,o,rfl,hbl,hcc⟩
 ·rw [h0] at hi; simp at hi
 ·have hlt1:i - 1 < E.length:=by omega
  obtain ⟨d0,d1,d2,d3,d4,d5⟩:=hcc i hi
  have q0:=(hcc (i - 1) hlt1).c0
  have c1:=HG0.out.c1
  rw [hG] at c1
  clear hcc HG0
  change _=some (Value.int _ (Ev.at E i).th) at d0
  change _=some (Value.int _ (Ev.at E i).kd) at d1
  change _=some (Value.int _ (Ev.at E i).md) at d2
  change _=some (Value.int _ (Ev.at E i).lc) at d3
  change _=some (Value.int _ (Ev.at E i).vl) at d4
  change _=some (Value.bool (Ev.at E i).ex) at d5
  change _=some (Value.int _ (Ev.at E (i - 1)).th) at q0
  generalize Ev.at E i=ev at *
  generalize Ev.at E (i - 1)=pv at *
  obtain ⟨x0,x1,x2,x3,x4,x5⟩:=ev
  obtain ⟨p0,p1,p2,p3,p4,p5⟩:=pv
  dsimp only at d0 d1 d2 d3 d4 d5 q0 c1
  have q0z:=fun o o'=>cell_next q0 (z2 o o')
  have c1z:=fun o'=>cell_next c1 ((Below.refl _ _).alloc (Nat.le_refl _) o')
  clear z1 z2 q0 c1
  by_cases e1:(i:Int) < locs
  ·go_enter Tryz.func16,Tryz.ntmps16
   go_wp2_with fail
   all_goals go_ret
   all_goals refine ⟨?_,HBz.out _ _⟩
   all_goals (show Ending.returned (Value.bool _)=Ending.returned (Value.bool _); congr 2; unfold evOk; simp [*])
  ·have l1:decide ((i:Int) < locs)=false:=by simp [e1]
   by_cases e2:x0 < 1
   ·have l2:decide (x0 < 1)=true:=by simp [e2]
    go_enter Tryz.func16,Tryz.ntmps16
    go_wp2_with fail
    go_region
    all_goals go_wp2_with fail
    all_goals go_ret
    all_goals refine ⟨?_,HBd.out _ _⟩
    all_goals (show Ending.returned (Value.bool _)=Ending.returned (Value.bool _); congr 2; unfold evOk; rw [if_neg (by omega)]; simp [*] <;> (try intros) <;> omega)
   ·have l2:decide (x0 < 1)=false:=by simp [e2]
    by_cases e3:4 < x0
    ·have l3:decide (4 < x0)=true:=by simp [e3]
     go_enter Tryz.func16,Tryz.ntmps16
     go_wp2_with fail
     go_region
     all_goals go_wp2_with fail
     all_goals go_ret
     all_goals refine ⟨?_,HBd.out _ _⟩
     all_goals (show Ending.returned (Value.bool _)=Ending.returned (Value.bool _); congr 2; unfold evOk; rw [if_neg (by omega)]; simp [*] <;> (try intros) <;> omega)
    ·have l3:decide (4 < x0)=false:=by simp [e3]
     by_cases e4:0 < i
     ·have l4:decide (0 < (i:Int))=true:=by simp [e4]
      have hsub:(i:Int) - 1=((i - 1:Nat):Int):=by omega
      have hsb2:((i - 1:Nat):Int) < (E.length:Int):=by omega
      have hsb3:(0:Int)≤((i - 1:Nat):Int):=by omega
      by_cases e5:x0 < p0
      ·have l5:decide (x0 < p0)=true:=by simp [e5]
       go_enter Tryz.func16,Tryz.ntmps16
       go_wp2_with fail
       go_region
       all_goals go_wp2_with fail
       all_goals go_ret
       all_goals refine ⟨?_,HBd.out _ _⟩
       all_goals (show Ending.returned (Value.bool _)=Ending.returned (Value.bool _); congr 2; unfold evOk; rw [if_neg (by omega)]; simp [*] <;> (try intros) <;> omega)
      ·have l5:decide (x0 < p0)=false:=by simp [e5]
       go_enter Tryz.func16,Tryz.ntmps16
       go_wp2_with fail
       go_region
       all_goals go_wp2_with fail
       all_goals go_ret
       all_goals refine ⟨?_,HBd.out _ _⟩
       all_goals (show Ending.returned (Value.bool _)=Ending.returned (Value.bool _); congr 2; unfold evOk; rw [if_neg (by omega)]; simp [*] <;> (try intros) <;> omega)
     ·have l4:decide (0 < (i:Int))=false:=by simp; omega
      go_enter Tryz.func16,Tryz.ntmps16
      go_wp2_with fail
      go_region
      all_goals go_wp2_with fail
      all_goals go_ret
      all_goals refine ⟨?_,HBd.out _ _⟩
      all_goals (show Ending.returned (Value.bool _)=Ending.returned (Value.bool _); congr 2; unfold evOk; rw [if_neg (by omega)]; simp [*] <;> (try intros) <;> omega)
end Go.Proofs.YthcnhbclagegeaaGreatDoor
namespace Go.Proofs.YthcnhbclagegeaaGreatDoor
open Go.RowKit RelA
namespace RelA
theorem below_drewN {B:Nat} {w w':World} (h:Below B w w') (n:Nat):Below B w (w'.drewN n):=⟨h.os,h.tape,h.output,h.size,h.block⟩
def lexB (p q:Int × Int):Prop:=p.1 < q.1 ∨ (p.1=q.1∧p.2 < q.2)
def RisingL (L:List (Int × Int)):Prop:=∀ k,1≤k→k < L.length→lexB (L.getD (k - 1) (0,0)) (L.getD k (0,0))
end RelA
set_option maxRecDepth 20000 in
set_option maxHeartbeats 3200000 in
theorem rising_any (a:Option Addr) (L:List (Int × Int)) (c:Nat) (w:World) (h:PIn w a L c) (hl:L.length≤400) :
  Calls Tryz.prog 58 #[.slice a L.length c] w fun e w'=>∃ x,e=.returned (.bool x)∧(x=true→RisingL L)∧Below w.heap.size w w':=by
 have HI:=Lib.hid h
 clear h
 go_enter Tryz.func58,Tryz.ntmps58
 go_wp2_with fail
 go_loopw [3] (fun v wr=>Below w.heap.size w wr∧∃ k:Nat,1≤k∧k≤L.length + 1∧v=.int .i64 k∧Hid (∀ j,1≤j→j < k→j < L.length→lexB (L.getD (j - 1) (0,0)) (L.getD j (0,0)))) (fun v _=>L.length + 1 - (intOf v).toNat)
 case atStart=>exact ⟨Below.refl _ _,1,by omega,by omega,rfl,Lib.hid (fun j _ _ _=>by omega)⟩
 case round=>
  obtain ⟨hbe,k,hk1,hk,rfl,HR⟩:=hrel
  by_cases hlt:k < L.length
  ·have hdk:decide ((k:Int) < (L.length:Int))=true:=by simp; omega
   have hki:(k:Int) < (L.length:Int):=by omega
   have hk9:(k:Int) < 1000:=by omega
   have hsub:(k:Int) - 1=((k - 1:Nat):Int):=by omega
   have hsb2:((k - 1:Nat):Int) < (L.length:Int):=by omega
   have hsb3:(0:Int)≤((k - 1:Nat):Int):=by omega
   have HS:Hid (lexB (L.getD (k - 1) (0,0)) (L.getD k (0,0))→∀ j,1≤j→j < k + 1→j < L.length→lexB (L.getD (j - 1) (0,0)) (L.getD j (0,0))):=Lib.hid (fun hx j a b c=>by
    rcases Nat.lt_succ_iff_lt_or_eq.1 b with e | rfl
    ·exact HR.out j a e c
    ·exact hx)
   rcases HI.out.next hbe with ⟨_,h0,_⟩ | ⟨_,_,h0⟩ | ⟨b,o,rfl,hbl,hcc⟩
   ·rw [h0] at hlt; simp at hlt
   ·rw [h0] at hlt; simp at hlt
   ·obtain ⟨d0,d1⟩:=hcc k hlt
    obtain ⟨q0,q1⟩:=hcc (k - 1) (by omega)
    have HB:=Lib.hid (below_drewN hbe)
    clear hcc HR
    generalize L.getD k (0,0)=p at *
    generalize L.getD (k - 1) (0,0)=q at *
    obtain ⟨p0,p1⟩:=p
    obtain ⟨r0,r1⟩:=q
    dsimp only at d0 d1 q0 q1
    by_cases e1:p0 < r0
    ·have l1:decide (p0 < r0)=true:=by simp [e1]
     go_wp2_with fail
     go_quiet (fail)
     go_wp2_with fail
     go_ret
     exact ⟨false,rfl,(fun hx=>by cases hx),HB.out _⟩
    ·have l1:decide (p0 < r0)=false:=by simp [e1]
     by_cases e2:p0=r0
     ·subst e2
      have l2:(p0 == p0)=true:=by simp
      by_cases e3:p1≤r1
      ·have l3:decide (p1≤r1)=true:=by simp [e3]
       go_wp2_with fail
       go_quiet (fail)
       go_wp2_with fail
       go_ret
       exact ⟨false,rfl,(fun hx=>by cases hx),HB.out _⟩
      ·have l3:decide (p1≤r1)=false:=by simp [e3]
       have HL:=Lib.hid (HS.out (.inr ⟨rfl,by omega⟩))
       go_wp2_with fail
       go_quiet (fail)
       go_wp2_with fail
       go_roundw
       case rel=>exact ⟨HB.out _,k + 1,by omega,by omega,by go_num,HL⟩
       case measure=>simp [intOf]; omega
     ·have l2:(p0 == r0)=false:=by simp [e2]
      have HL:=Lib.hid (HS.out (.inl (by show r0 < p0; omega)))
      go_wp2_with fail
      go_quiet (fail)
      go_wp2_with fail
      go_roundw
      case rel=>exact ⟨HB.out _,k + 1,by omega,by omega,by go_num,HL⟩
      case measure=>simp [intOf]; omega
  ·have hdk:decide ((k:Int) < (L.length:Int))=false:=by simp; omega
   have HL:Hid (RisingL L):=Lib.hid (fun j a b=>HR.out j a (by omega) b)
   have HB:=Lib.hid hbe
   go_wp2_with fail
   go_ret
   exact ⟨true,rfl,(fun _=>HL.out),HB.out⟩
namespace RelA
def DepOk (E:List Ev) (p:Int × Int):Prop:=∃ a b:Nat,p=((a:Int),(b:Int))∧a < b∧b < E.length∧(Ev.at E a).kd=1∧(Ev.at E a).th=(Ev.at E b).th
def DepsOk (E:List Ev) (L:List (Int × Int)):Prop:=(∀ k,k < L.length→DepOk E (L.getD k (0,0)))∧RisingL L
end RelA
set_option maxRecDepth 20000 in
set_option maxHeartbeats 20000000 in
theorem deps_any (g:Gr) (a:Option Addr) (L:List (Int × Int)) (c:Nat) (w:World) (hes:EsIn w g.ea g.E) (he:g.E.length≤100) (h:PIn w a L c) (hl:L.length≤400) :
  Calls Tryz.prog 20 #[g.v,.slice a L.length c] w fun e w'=>∃ x,e=.returned (.bool x)∧(x=true→DepsOk g.E L)∧Below w.heap.size w w':=by
 have HR:=Lib.hid (fun w' (hb:Below w.heap.size w w')=>rising_any a L c w' (h.next hb) hl)
 have HG0:=Lib.hid (GBox.of_alloc w g 27)
 obtain ⟨G,hG⟩:∃ G,G=g:=⟨_,rfl⟩
 obtain ⟨locs,ea,E,ec,ra,R,rc,ca,C,cc,ma,Rmw,mc,da,Data,dc,ta,Ctrl,tc,ia,CtrlI,ic⟩:=g
 simp only [Gr.v,gcells] at hes he HG0 ⊢
 rw [← hG] at HG0
 have HI:=Lib.hid h
 have HES:=Lib.hid hes
 clear h hes
 go_enter Tryz.func20,Tryz.ntmps20
 go_wp2_with fail
 obtain ⟨w1,hw1⟩:∃ x,x=w.alloc (Obj.cells #[.int .i64 locs,.slice ea E.length ec,.slice ra R.length rc,.slice ca C.length cc,.slice ma Rmw.length mc,.slice da Data.length dc,.slice ta Ctrl.length tc,.slice ia CtrlI.length ic] 27 (0,0)):=⟨_,rfl⟩
 rw [← hw1] at HG0 ⊢
 have hs1:w1.heap.size=w.heap.size + 1:=by rw [hw1]; simp
 have HB1:Hid (Below w.heap.size w w1):=Lib.hid (by rw [hw1]; exact (Below.refl _ _).alloc (Nat.le_refl _) _)
 clear hw1
 have HI1:=Lib.hid (HI.out.next HB1.out)
 have HE1:=Lib.hid (HES.out.next HB1.out)
 clear HI HES hs1
 go_loopw [5] (fun v wr=>Below w1.heap.size w1 wr∧∃ k:Nat,k≤L.length∧v=.int .i64 k∧Hid (∀ j,j < k→DepOk E (L.getD j (0,0)))) (fun v _=>L.length - (intOf v).toNat)
 case atStart=>exact ⟨Below.refl _ _,0,by omega,rfl,Lib.hid (fun j _=>by omega)⟩
 case round=>
  obtain ⟨hbe,k,hk,rfl,HD⟩:=hrel
  have HBE:=Lib.hid hbe
  obtain ⟨c0,c1,c2,c3,c4,c5,c6,c7⟩:=HG0.out.next hbe
  rw [hG] at c0 c1 c2 c3 c4 c5 c6 c7
  dsimp only at c0 c1 c2 c3 c4 c5 c6 c7
  clear c0 c2 c3 c4 c5 c6 c7
  by_cases hlt:k < L.length
  ·have hdk:decide ((k:Int) < (L.length:Int))=true:=by simp; omega
   have hki:(k:Int) < (L.length:Int):=by omega
   have hk9:(k:Int) < 1000:=by omega
   have HS:Hid (DepOk E (L.getD k (0,0))→∀ j,j < k + 1→DepOk E (L.getD j (0,0))):=Lib.hid (fun hx j b=>by
    rcases Nat.lt_succ_iff_lt_or_eq.1 b with e | rfl
    ·exact HD.out j e
    ·exact hx)
   rcases HI1.out.next hbe with ⟨_,h0,_⟩ | ⟨_,_,h0⟩ | ⟨b,o,rfl,hbl,hcc⟩
   ·rw [h0] at hlt; simp at hlt
   ·rw [h0] at hlt; simp at hlt
   ·obtain ⟨p0,p1⟩:=hcc k hlt
    have HB:=Lib.hid (below_drewN (below_next HB1.out hbe.drew))
    have HBD:=Lib.hid (below_drewN hbe)
    clear hcc HD
    generalize L.getD k (0,0)=p at *
    obtain ⟨x,y⟩:=p
    dsimp only at p0 p1
    by_cases e1:x < 0
    ·have l1:decide (x < 0)=true:=by simp [e1]
     clear HBE hbe
     go_wp2_with fail
     go_region
     go_wp2_with fail
     go_quiet (fail)
     go_wp2_with fail
     go_ret
     exact ⟨false,rfl,(fun hx=>by cases hx),HB.out _⟩
    ·have l1:decide (x < 0)=false:=by simp [e1]
     by_cases e2:y≤x
     ·have l2:decide (y≤x)=true:=by simp [e2]
      clear HBE hbe
      go_wp2_with fail
      go_region
      go_wp2_with fail
      go_quiet (fail)
      go_wp2_with fail
      go_ret
      exact ⟨false,rfl,(fun hx=>by cases hx),HB.out _⟩
     ·have l2:decide (y≤x)=false:=by simp [e2]
      by_cases e3:(E.length:Int)≤y
      ·have l3:decide ((E.length:Int)≤y)=true:=by simp [e3]
       clear HBE hbe
       go_wp2_with fail
       go_region
       go_wp2_with fail
       go_quiet (fail)
       go_wp2_with fail
       go_ret
       exact ⟨false,rfl,(fun hx=>by cases hx),HB.out _⟩
      ·have l3:decide ((E.length:Int)≤y)=false:=by simp [e3]
       obtain ⟨m,rfl⟩:=Int.eq_ofNat_of_zero_le (show 0≤x by omega)
       obtain ⟨n,rfl⟩:=Int.eq_ofNat_of_zero_le (show 0≤y by omega)
       have hm:m < E.length:=by omega
       have hn:n < E.length:=by omega
       have hmi:(m:Int) < (E.length:Int):=by omega
       have hni:(n:Int) < (E.length:Int):=by omega
       have l2n:decide (n≤m)=false:=by simp; omega
       have l3n:decide (E.length≤n)=false:=by simp; omega
       have HS2:Hid ((Ev.at E m).kd=1→(Ev.at E m).th=(Ev.at E n).th→∀ j,j < k + 1→DepOk E (L.getD j (0,0))):=Lib.hid (fun u v=>HS.out ⟨m,n,rfl,by omega,hn,u,v⟩)
       rcases HE1.out.next hbe with h0 | ⟨eb,eo,rfl,hebl,hecc⟩
       ·rw [h0] at hm; simp at hm
       ·obtain ⟨d0,d1,d2,d3,d4,d5⟩:=hecc m hm
        obtain ⟨f0,f1,f2,f3,f4,f5⟩:=hecc n hn
        clear hecc HBE hbe HS
        change _=some (Value.int _ (Ev.at E m).th) at d0
        change _=some (Value.int _ (Ev.at E m).kd) at d1
        change _=some (Value.int _ (Ev.at E m).md) at d2
        change _=some (Value.int _ (Ev.at E m).lc) at d3
        change _=some (Value.int _ (Ev.at E m).vl) at d4
        change _=some (Value.bool (Ev.at E m).ex) at d5
        change _=some (Value.int _ (Ev.at E n).th) at f0
        change _=some (Value.int _ (Ev.at E n).kd) at f1
        change _=some (Value.int _ (Ev.at E n).md) at f2
        change _=some (Value.int _ (Ev.at E n).lc) at f3
        change _=some (Value.int _ (Ev.at E n).vl) at f4
        change _=some (Value.bool (Ev.at E n).ex) at f5
        generalize Ev.at E m=ev at *
        generalize Ev.at E n=fv at *
        obtain ⟨x0,x1,x2,x3,x4,x5⟩:=ev
        obtain ⟨y0,y1,y2,y3,y4,y5⟩:=fv
        dsimp only at d0 d1 d2 d3 d4 d5 f0 f1 f2 f3 f4 f5
        clear d2 d3 d4 d5 f1 f2 f3 f4 f5
        by_cases e4:x1=1
        ·subst e4
         by_cases e5:x0=y0
         ·subst e5
          have l5:(x0 == x0)=true:=by simp
          have HL:=Lib.hid (HS2.out rfl rfl)
          go_wp2_with fail
          go_region
          go_wp2_with fail
          go_quiet (fail)
          go_wp2_with fail
          go_roundw
          case rel=>exact ⟨HBD.out _,k + 1,by omega,by go_num,HL⟩
          case measure=>simp [intOf]; omega
         ·have l5:(x0 == y0)=false:=by simp [e5]
          go_wp2_with fail
          go_region
          go_wp2_with fail
          go_quiet (fail)
          go_wp2_with fail
          go_ret
          exact ⟨false,rfl,(fun hx=>by cases hx),HB.out _⟩
        ·have l4:(x1 == 1)=false:=by simp [e4]
         go_wp2_with fail
         go_region
         go_wp2_with fail
         go_quiet (fail)
         go_wp2_with fail
         go_ret
         exact ⟨false,rfl,(fun hx=>by cases hx),HB.out _⟩
  ·have hdk:decide ((k:Int) < (L.length:Int))=false:=by simp; omega
   have HL:Hid (∀ j,j < L.length→DepOk E (L.getD j (0,0))):=Lib.hid (fun j a=>HD.out j (by omega))
   have HB:=Lib.hid (below_next HB1.out hbe)
   clear hbe HBE
   go_wp2_with fail
   refine (HR.out _ HB.out).mono ?_
   rintro e wn ⟨x,rfl,hx,hbn⟩
   have HX:=Lib.hid hx
   have HBN:=Lib.hid (below_next HB.out hbn)
   clear hx hbn
   go_wp2_with fail
   go_ret
   exact ⟨_,rfl,(fun e=>⟨HL.out,HX.out e⟩),HBN.out⟩
end Go.Proofs.YthcnhbclagegeaaGreatDoor
namespace Go.Proofs.YthcnhbclagegeaaGreatDoor
open Go.RowKit RelA
namespace RelA
def RfOk (E:List Ev) (i:Nat) (r:Int):Prop:=
 ((Ev.at E i).kd=1→∃ m:Nat,r=m∧m < E.length∧(Ev.at E m).kd=2∧(Ev.at E m).lc=(Ev.at E i).lc∧(Ev.at E m).vl=(Ev.at E i).vl)∧((Ev.at E i).kd ≠ 1→r=-1)
end RelA
set_option maxRecDepth 20000 in
set_option maxHeartbeats 3200000 in
theorem rf_any (g:Gr) (i:Nat) (w:World) (hes:EsIn w g.ea g.E) (hr:NsIn w g.ra g.R) (hi:i < g.E.length) (he:g.E.length≤100) (hle:g.E.length≤g.R.length) :
  Calls Tryz.prog 17 #[g.v,.int .i64 i] w fun e w'=>∃ x,e=.returned (.bool x)∧(x=true→RfOk g.E i (g.R.getD i 0))∧Below w.heap.size w w':=by
 have HG0:=Lib.hid (GBox.of_alloc w g 27)
 obtain ⟨G,hG⟩:∃ G,G=g:=⟨_,rfl⟩
 obtain ⟨locs,ea,E,ec,ra,R,rc,ca,C,cc,ma,Rmw,mc,da,Data,dc,ta,Ctrl,tc,ia,CtrlI,ic⟩:=g
 simp only [Gr.v,gcells] at hes hr hi he hle HG0 ⊢
 rw [← hG] at HG0
 have hii:(i:Int) < (E.length:Int):=by omega
 have hii2:(i:Int) < (R.length:Int):=by omega
 have hir:i < R.length:=by omega
 have hi9:(i:Int) < 100:=by omega
 have HES:=Lib.hid hes
 have HR:=Lib.hid hr
 have HX0:Hid ((Ev.at E i).kd ≠ 1→R.getD i 0=-1→RfOk E i (R.getD i 0)):=Lib.hid (fun u v=>⟨fun t=>absurd t u,fun _=>v⟩)
 have HX1:Hid (∀ m:Nat,(Ev.at E i).kd=1→R.getD i 0=m→m < E.length→(Ev.at E m).kd=2→(Ev.at E m).lc=(Ev.at E i).lc→(Ev.at E m).vl=(Ev.at E i).vl→RfOk E i (R.getD i 0)):=Lib.hid (fun m u v x y z t=>⟨fun _=>⟨m,v,x,y,z,t⟩,fun a=>absurd u a⟩)
 obtain ⟨K,hK⟩:∃ K,K=RfOk E i (R.getD i 0):=⟨_,rfl⟩
 rw [← hK] at HX0 HX1 ⊢
 clear hK
 clear hes hr hle
 go_enter Tryz.func17,Tryz.ntmps17
 go_wp2_with fail
 obtain ⟨w1,hw1⟩:∃ x,x=w.alloc (Obj.cells #[.int .i64 locs,.slice ea E.length ec,.slice ra R.length rc,.slice ca C.length cc,.slice ma Rmw.length mc,.slice da Data.length dc,.slice ta Ctrl.length tc,.slice ia CtrlI.length ic] 27 (0,0)):=⟨_,rfl⟩
 rw [← hw1] at HG0 ⊢
 have hs1:w1.heap.size=w.heap.size + 1:=by rw [hw1]; simp
 have HB1:Hid (Below w.heap.size w w1):=Lib.hid (by rw [hw1]; exact (Below.refl _ _).alloc (Nat.le_refl _) _)
 clear hw1
 have HE1:=HES.out.next HB1.out
 have HR1:=HR.out.next HB1.out
 obtain ⟨c0,c1,c2,c3,c4,c5,c6,c7⟩:=HG0.out
 rw [hG] at c0 c1 c2 c3 c4 c5 c6 c7
 dsimp only at c0 c1 c2 c3 c4 c5 c6 c7
 clear hs1 HES HR c0 c3 c4 c5 c6 c7 HG0
 rcases HE1 with h0 | ⟨eb,eo,rfl,hebl,hecc⟩
 ·rw [h0] at hi; simp at hi
 ·rcases HR1 with h0 | ⟨rb,ro,rfl,hrbl,hrcc⟩
  ·rw [h0] at hir; simp at hir
  ·obtain ⟨d0,d1,d2,d3,d4,d5⟩:=hecc i hi
   have r0:=hrcc i hir
   have HEC:=Lib.hid hecc
   clear hecc hrcc
   change _=some (Value.int _ (Ev.at E i).th) at d0
   change _=some (Value.int _ (Ev.at E i).kd) at d1
   change _=some (Value.int _ (Ev.at E i).md) at d2
   change _=some (Value.int _ (Ev.at E i).lc) at d3
   change _=some (Value.int _ (Ev.at E i).vl) at d4
   change _=some (Value.bool (Ev.at E i).ex) at d5
   generalize R.getD i 0=r at *
   obtain ⟨ev,hev⟩:∃ ev,ev=Ev.at E i:=⟨_,rfl⟩
   rw [← hev] at d0 d1 d2 d3 d4 d5 HX0 HX1
   clear hev
   obtain ⟨x0,x1,x2,x3,x4,x5⟩:=ev
   dsimp only at d0 d1 d2 d3 d4 d5 HX0 HX1
   have z1:∀ o,Below w1.heap.size w1 (w1.alloc o):=fun o=>(Below.refl _ _).alloc (Nat.le_refl _) o
   have c1z:=fun o=>cell_next c1 (z1 o)
   have c2z:=fun o=>cell_next c2 (z1 o)
   have r0z:=fun o=>cell_next r0 (z1 o)
   have d0z:=fun o=>cell_next d0 (z1 o)
   have d1z:=fun o=>cell_next d1 (z1 o)
   have d2z:=fun o=>cell_next d2 (z1 o)
   have d3z:=fun o=>cell_next d3 (z1 o)
   have d4z:=fun o=>cell_next d4 (z1 o)
   have d5z:=fun o=>cell_next d5 (z1 o)
   have HZ:=Lib.hid (fun o=>below_next HB1.out (z1 o))
   clear z1 HB1
   have HZZ:=Lib.hid (fun o o'=>below_next (HZ.out o) ((Below.refl _ _).alloc (Nat.le_refl _) o'))
   have HZD:=Lib.hid (fun o=>(HZ.out o).drew)
   by_cases e1:x1=1
   ·subst e1
    by_cases e2:r < 0
    ·have l2:decide (r < 0)=true:=by simp [e2]
     clear HX0 HX1 HEC
     go_wp2_with fail
     go_region
     go_wp2_with fail
     go_ret
     exact ⟨false,rfl,(fun hx=>by cases hx),HZD.out _⟩
    ·have l2:decide (r < 0)=false:=by simp [e2]
     by_cases e3:(E.length:Int)≤r
     ·have l3:decide ((E.length:Int)≤r)=true:=by simp [e3]
      clear HX0 HX1 HEC
      go_wp2_with fail
      go_region
      go_wp2_with fail
      go_ret
      exact ⟨false,rfl,(fun hx=>by cases hx),HZD.out _⟩
     ·have l3:decide ((E.length:Int)≤r)=false:=by simp [e3]
      obtain ⟨m,rfl⟩:=Int.eq_ofNat_of_zero_le (show 0≤r by omega)
      have hm:m < E.length:=by omega
      have hmi:(m:Int) < (E.length:Int):=by omega
      obtain ⟨f0,f1,f2,f3,f4,f5⟩:=HEC.out m hm
      have HX2:=Lib.hid (fun u v x=>HX1.out m rfl rfl hm u v x)
      clear HEC HX0 HX1
      change _=some (Value.int _ (Ev.at E m).th) at f0
      change _=some (Value.int _ (Ev.at E m).kd) at f1
      change _=some (Value.int _ (Ev.at E m).md) at f2
      change _=some (Value.int _ (Ev.at E m).lc) at f3
      change _=some (Value.int _ (Ev.at E m).vl) at f4
      change _=some (Value.bool (Ev.at E m).ex) at f5
      generalize Ev.at E m=fv at *
      obtain ⟨y0,y1,y2,y3,y4,y5⟩:=fv
      dsimp only at f0 f1 f2 f3 f4 f5 HX2
      have z1:∀ o,Below w1.heap.size w1 (w1.alloc o):=fun o=>(Below.refl _ _).alloc (Nat.le_refl _) o
      have f0z:=fun o=>cell_next f0 (z1 o)
      have f1z:=fun o=>cell_next f1 (z1 o)
      have f2z:=fun o=>cell_next f2 (z1 o)
      have f3z:=fun o=>cell_next f3 (z1 o)
      have f4z:=fun o=>cell_next f4 (z1 o)
      have f5z:=fun o=>cell_next f5 (z1 o)
      have HQ:Hid (∀ o o',Below w.heap.size w ((w1.alloc o).drew.alloc o')):=Lib.hid (fun o o'=>below_next (HZD.out o) ((Below.refl _ _).alloc (Nat.le_refl _) o'))
      clear z1
      by_cases e4:y1=2
      ·subst e4
       by_cases e5:y3=x3
       ·subst e5
        have l5:(y3 == y3)=true:=by simp
        by_cases e6:y4=x4
        ·subst e6
         have l6:(y4 == y4)=true:=by simp
         have HK:=Lib.hid (HX2.out rfl rfl rfl)
         go_wp2_with fail
         go_region
         go_wp2_with fail
         go_ret
         exact ⟨true,rfl,(fun _=>HK.out),HQ.out _ _⟩
        ·have l6:(y4 == x4)=false:=by simp [e6]
         clear HX2
         go_wp2_with fail
         go_region
         go_wp2_with fail
         go_ret
         exact ⟨false,rfl,(fun hx=>by cases hx),HQ.out _ _⟩
       ·have l5:(y3 == x3)=false:=by simp [e5]
        clear HX2
        go_wp2_with fail
        go_region
        go_wp2_with fail
        go_ret
        exact ⟨false,rfl,(fun hx=>by cases hx),HQ.out _ _⟩
      ·have l4:(y1 == 2)=false:=by simp [e4]
       clear HX2
       go_wp2_with fail
       go_region
       go_wp2_with fail
       go_ret
       exact ⟨false,rfl,(fun hx=>by cases hx),HQ.out _ _⟩
   ·have l1:(x1 == 1)=false:=by simp [e1]
    by_cases e2:r=-1
    ·have HK:=Lib.hid (HX0.out e1 e2)
     subst e2
     clear HX0 HX1 HEC
     go_wp2_with fail
     go_region
     go_wp2_with fail
     go_ret
     exact ⟨true,rfl,(fun _=>HK.out),HZD.out _⟩
    ·have l2:(r == -1)=false:=by simp [e2]
     clear HX0 HX1 HEC
     go_wp2_with fail
     go_region
     go_wp2_with fail
     go_ret
     exact ⟨false,rfl,(fun hx=>by cases hx),HZD.out _⟩
end Go.Proofs.YthcnhbclagegeaaGreatDoor
