/-
  exegesislaw20.all is true of a graph that may be: runs whose calls are told, truth values by cases. Conditions: the graph in memory, the table of bits in its variable.
-/
import Derived.Test.YthcnhbclagegeaaGreatDoorMi
import Derived.Test.YthcnhbclagegeaaGreatDoorMb
import Derived.Test.YthcnhbclagegeaaGreatDoorMd
import Derived.Test.YthcnhbclagegeaaGreatDoorMv
import Derived.Test.YthcnhbclagegeaaGreatDoorMy
import Derived.Test.YthcnhbclagegeaaGreatDoorMw
set_option maxRecDepth 20000
set_option maxHeartbeats 8000000
namespace Go.Proofs.YthcnhbclagegeaaGreatDoor
open Go.RowKit RelA
section
namespace RelA
def Zcz (n:Nat) (M:Nat->Nat->Bool):Prop:=∃ a,a<n/\M a a=true
theorem Zxv {n:Nat} {R:Nat->Nat} {M:Nat->Nat->Bool} (h:Lk R M) (a:Nat) (ha:a<n):Zt4 n R (a:Int) (a:Int)=M a a:=by
 have e:(R a).testBit a=M a a:=by rw[Bool.eq_iff_iff];exact h a a
 unfold Zt4
 simp[ha,e]
end RelA
section
attribute [local irreducible] RelA.rcells
theorem Ybj (b n:Nat) (M:Nat->Nat->Bool) (w:World) (h:Rl w b n M) (hn:n<=40) (x:Bool) (hx:x=true↔Zcz n M) :
  Calls Tryz.prog 136 #[.pointer (some ⟨b,0,none⟩)] w fun e w'=>e=.returned (.bool x)/\w=w':=by
 obtain⟨⟨R,h1,h2,h3⟩,h4⟩:=h
 have HL:=jh (Zmg b n w h1.c0)
 have HH:=jh (fun a (ha:a<n)=>(Zxv h3 a ha)▸Zwi b n R (a:Int) (a:Int) w h1 hn (fun i _=>by have:=h2 i;omega))
 have HX:=jh hx
 clear h1 h2 h3 h4 hx
 go_enter Tryz.func136,Tryz.ntmps136
 go_wp2_with fail
 refine HL.out.mono ?_
 rintro e w' ⟨rfl,rfl⟩
 go_wp2_with fail
 go_loopw [6] (fun v wr=>w=wr/\∃ k:Nat,k<=n/\v=.int .i64 k/\Hid (∀ a,a<k->M a a=false)) (fun v _=>n-(intOf v).toNat)
 case atStart=>exact⟨rfl,0,Nat.zero_le _,rfl,jh (fun a ha=>by omega)⟩
 case round=>
  obtain⟨rfl,k,hk,rfl,HD⟩:=hrel
  by_cases hlt:k<n
  ·have hdk:decide ((k:Int)<(n:Int))=true:=by simp;omega
   have hk40:(k:Int)<40:=by omega
   have HC:=jh (HH.out k hlt)
   cases hb:M k k
   ·rw[hb] at HC
    have HL2:Hid (∀ a,a<k+1->M a a=false):=jh (fun a ha=>by
     by_cases e:a=k
     ·subst e;exact hb
     ·exact HD.out a (by omega))
    clear hb HD
    go_wp2_with fail
    refine HC.out.mono ?_
    rintro e w' ⟨rfl,rfl⟩
    go_wp2_with fail
    go_roundw
    case rel=>exact⟨trivial,k+1,by omega,by go_num,HL2⟩
    case measure=>simp[intOf];omega
   ·rw[hb] at HC
    have HY:=jh (HX.out.2 ⟨k,hlt,hb⟩)
    clear hb HD
    go_wp2_with fail
    refine HC.out.mono ?_
    rintro e w' ⟨rfl,rfl⟩
    go_wp2_with fail
    go_ret
    exact⟨by rw[HY.out];rfl,rfl⟩
  ·have hdk:decide ((k:Int)<(n:Int))=false:=by simp;omega
   have HY:Hid (x=false):=jh (by
    cases x
    ·rfl
    ·obtain⟨a,ha,e⟩:=HX.out.1 rfl
     rw[HD.out a (by omega)] at e
     cases e)
   clear HD
   go_wp2_with fail
   go_ret
   exact⟨by rw[HY.out];rfl,rfl⟩
end
theorem Ykn (b n:Nat) (M:Nat->Nat->Bool) (w:World) (h:Rr w b n M) (hn:n<=40) (x:Bool) (hx:x=true↔Zcz n M) :
  Calls Tryz.prog 118 #[.pointer (some ⟨b,0,none⟩)] w fun e w'=>e=.returned (.bool x)/\w=w':=by
 have hat:=h.at_
 have HAT:=jh hat
 have hr0:=hat.c0
 have HX:=jh hx
 clear hat h hx
 go_enter Tryz.func118,Tryz.ntmps118
 go_wp2_with fail
 go_loopw [3] (fun v wr=>w=wr/\∃ k:Nat,k<=n/\v=.int .i64 k/\Hid (∀ a,a<k->M a a=false)) (fun v _=>n-(intOf v).toNat)
 case atStart=>exact⟨rfl,0,Nat.zero_le _,rfl,jh (fun a ha=>by omega)⟩
 case round=>
  obtain⟨rfl,k,hk,rfl,HD⟩:=hrel
  by_cases hlt:k<n
  ·have hdk:decide ((k:Int)<(n:Int))=true:=by simp;omega
   have hki:(k:Int)<(n:Int):=by omega
   have hk40:(k:Int)<40:=by omega
   have hd:=HAT.out.ci k k (by omega) (by omega)
   cases hb:M k k
   ·rw[hb] at hd
    have HL2:Hid (∀ a,a<k+1->M a a=false):=jh (fun a ha=>by
     by_cases e:a=k
     ·subst e;exact hb
     ·exact HD.out a (by omega))
    clear hb HD
    go_wp2_with fail
    go_roundw
    case rel=>exact⟨trivial,k+1,by omega,by go_num,HL2⟩
    case measure=>simp[intOf];omega
   ·rw[hb] at hd
    have HY:=jh (HX.out.2 ⟨k,hlt,hb⟩)
    clear hb HD
    go_wp2_with fail
    go_ret
    exact⟨by rw[HY.out];rfl,rfl⟩
  ·have hdk:decide ((k:Int)<(n:Int))=false:=by simp;omega
   have HY:Hid (x=false):=jh (by
    cases x
    ·rfl
    ·obtain⟨a,ha,e⟩:=HX.out.1 rfl
     rw[HD.out a (by omega)] at e
     cases e)
   clear HD
   go_wp2_with fail
   go_ret
   exact⟨by rw[HY.out];rfl,rfl⟩
theorem Zp5 (b n:Nat) (M:Nat->Nat->Bool) (w:World) (h:Rl w b n M) (hn:n<=40) (ht:Tab w) (x:Bool) (hx:x=true↔Zcz n (Zbl M)) :
  Calls Tryz.prog 132 #[.pointer (some ⟨b,0,none⟩)] w fun e w'=>e=.returned (.bool x)/\Below w.heap.size w w':=by
 obtain⟨⟨R,h1,h2,h3⟩,h4⟩:=h
 have hp:Lk (Zk0 R) (Zbl M):=Zv6 h3 (fun i j=>plusM_iff) h2
 have hw:=Zrf h4
 have e:Zj3 (Zk0 R)=x:=by
  rw[Bool.eq_iff_iff,Zio,hx]
  constructor
  ·rintro⟨i,_,hi⟩
   have hi:Zbl M i i=true:=(hp i i).1 hi
   exact⟨i,(hw i i hi).1,hi⟩
  ·rintro⟨i,hi,q⟩
   exact⟨i,by omega,(hp i i).2 q⟩
 rw[<- e]
 exact Zxo b n R w h1 h2 ht
theorem Zjd (b n:Nat) (M:Nat->Nat->Bool) (w:World) (h:Rr w b n M) (hn:n<=40) (x:Bool) (hx:x=true↔Zcz n (Zbl M)) :
  Calls Tryz.prog 120 #[.pointer (some ⟨b,0,none⟩)] w fun e w'=>e=.returned (.bool x)/\Below w.heap.size w w':=
 Zs8 b n M w h.at_ hn h.wf x (hx.trans ⟨fun ⟨a,ha,q⟩=>⟨a,ha,plusM_iff.1 q⟩,fun ⟨a,ha,q⟩=>⟨a,ha,plusM_iff.2 q⟩⟩)
end
section
attribute [local irreducible] RelA.rcells
section
attribute [local go_sem ↓] Go.wp_at_zero Go.wp_at_succ
theorem Zzf (b c n:Nat) (R:Nat->Nat) (M:Nat->Nat->Bool) (w:World) (hb:At w b n R) (hc:RAt w c n M) (hn:n<=40) (hR:∀ i,R i<2 ^ 40) (ht:Tab w) (he:Zga R=Zay n M) :
  Calls Tryz.prog 51 #[.pointer (some ⟨b,0,none⟩),.pointer (some ⟨c,0,none⟩)] w fun e w'=>e=.returned (.bool true)/\Below w.heap.size w w':=by
 have hc0:=hc.c0
 have HL:=jh (Zmg b n w.drew hb.c0)
 have HP:=jh (Zhy b n R w.drew hb hR ht)
 have HQ:=jh (fun w1 (h:Below w.heap.size w w1)=>Zim c n M w1 (hc.next h) hn)
 have HE:=jh he
 have hlen:(Zay n M).length<=100000:=by have:=Zhm n M hn n;unfold Zay;omega
 have HS:=jh (fun a1 a2 c1 c2 w1 (h1:PairsRd w1 a1 (Zay n M)) (h2:PairsRd w1 a2 (Zay n M))=>Ykk (Zay n M) a1 a2 c1 c2 w1 h1 h2 hlen)
 clear hb hc hR ht he hn
 go_enter Tryz.func51,Tryz.ntmps51
 go_wp2_with fail
 go_region_with (first
  | (go_at_call 82;refine HL.out.mono ?_;rintro e w' ⟨rfl,rfl⟩)
  | (go_at_call 84;refine HP.out.mono ?_;rintro e w1 ⟨v,rfl,hown,hbe⟩;have hbe1:Below w.heap.size w w1:=⟨hbe.os,hbe.tape,hbe.output,hbe.size,hbe.block⟩;rw[HE.out] at hown;obtain⟨p1,q1,rfl,hrd1⟩:=PairsRd.of_own hown;clear hown hbe;have HR1:=jh hrd1;have HBE1:=jh hbe1;clear hrd1 hbe1)
  | (go_at_call 85;refine(HQ.out _ HBE1.out).mono ?_;rintro e w2 ⟨v,rfl,hown,hbe⟩;obtain⟨p2,q2,rfl,hrd2⟩:=PairsRd.of_own hown;have HR2:=jh hrd2;have HR12:=jh (HR1.out.next hbe);have HBE2:=jh (Zab HBE1.out hbe);clear hown hrd2 hbe)
  | (go_at_call 83;refine(HS.out _ _ _ _ _ HR12.out HR2.out).mono ?_;rintro e w3 ⟨rfl,hbe⟩;have HBE3:=jh (Zab HBE2.out hbe);clear hbe))
 all_goals go_wp2_with fail
 all_goals go_ret
 all_goals exact⟨rfl,HBE3.out⟩
end
namespace ToldP
open Go.Rn (Rho RV Mp Zkv dsc_cons dsc_nil den Za7)
theorem Zqz (b c n:Nat) (M:Nat->Nat->Bool) (w:World) (h:Rl w b n M) (k:Rr w c n M) (hn:n<=40) (ht:Tab w) :
  Calls Tryz.prog 51 #[.pointer (some ⟨b,0,none⟩),.pointer (some ⟨c,0,none⟩)] w fun e w'=>e=.returned (.bool true)/\Below w.heap.size w w':=by
 obtain⟨⟨R,h1,h2,h3⟩,h4⟩:=h
 exact Zzf b c n R M w h1 k.at_ hn h2 ht (Zho hn h3 h4)
end ToldP
end
section
namespace ToldP
open Go.Rn (Rho RV Mp Tells Yhw inC Zap Zca Zbh)
noncomputable def chF (ks:RV):RV:=.cons (.fn 100 (.cons ks (.cons gR .nil))) .nil
theorem Zor {g:Gr} {w0:World} {MM:M4} {f es:Nat} {ks:RV} (hc:∀ ws,Below w0.heap.size w0 ws->Calls Tryz.prog f #[g.v] ws fun e w'=>∃ Bs,e=.returned (Go.Rn.wrapV es Bs)/\Go.Rn.Objs (rho g none [] 0 w0 MM) (.cons gR .nil) ws.heap.size w' ks 100 Bs/\Go.Rn.Old ws w') :
  Yhw Tryz.prog (rho g none [] 0 w0 MM) f es (chF ks):=by
 intro F k s hi ds hs m w vs hw hd
 rcases hi with hi | hi
 ·cases hi
  obtain⟨y,t,rfl,h1,h2⟩:=Zap hs
  obtain rfl:=Zca h2
  obtain rfl:=Zbh Zj5 h1
  obtain⟨x,xs,rfl,d1,d2⟩:=Go.Rn.dsc_cons hd
  obtain rfl:=Go.Rn.dsc_nil d2
  obtain rfl:=Zl8 (m:=m) d1
  exact hc w (Zgk hw)
 ·exact hi.elim
theorem Yer {g:Gr} {w0:World} {MM:M4} (c:Cx g none [] 0 w0):Tells Tryz.prog (rho g none [] 0 w0 MM) (168,2,chF PP.ks):=⟨by kernel_rfl,fun _=>Zor (fun ws hb=>PP.parts_l c ws hb),fun h=>by cases h⟩
theorem Zy9 {g:Gr} {w0:World} {MM:M4} (c:Cx g none [] 0 w0):Tells Tryz.prog (rho g none [] 0 w0 MM) (177,3,chF PR.ks):=⟨by kernel_rfl,fun _=>Zor (fun ws hb=>PR.rparts_l c ws hb),fun h=>by cases h⟩
namespace L20
open Go.Rn (chV chW Zau kcL Zbr Zcc isB Zt1 Ze3 Zci inL Zbk Za8 he denC_cons denC_nil Zkv dsc_cons dsc_nil den Za7)
variable {g:Gr} {w0:World}
noncomputable def p0:RV:=.fn 1 (.cons gR .nil)
noncomputable def p1:RV:=.fn 2 (.cons gR .nil)
noncomputable def p2:RV:=.fn 5 (.cons gR .nil)
noncomputable def p3:RV:=.fn 6 (.cons gR .nil)
noncomputable def p4:RV:=.fn 40 (.cons gR (.cons (.i .i64 1) (.cons .ns .nil)))
noncomputable def p5:RV:=.fn 41 (.cons gR (.cons (.i .i64 2) (.cons .ns .nil)))
noncomputable def p6:RV:=jB 10 1 p4 p5
noncomputable def p7:RV:=jG 20 1 p3
noncomputable def p8:RV:=jU 14 1 p0
noncomputable def p9:RV:=jB 13 1 p8 p1
noncomputable def p10:RV:=.fn 100 (.cons gR .nil)
noncomputable def p11:RV:=.fn 101 (.cons gR .nil)
noncomputable def p12:RV:=.fn 102 (.cons gR .nil)
noncomputable def p13:RV:=.fn 103 (.cons gR .nil)
noncomputable def p14:RV:=jB 13 1 p4 p10
noncomputable def p15:RV:=jB 13 1 p14 p4
noncomputable def p16:RV:=jB 13 1 p4 p11
noncomputable def p17:RV:=jB 13 1 p16 p5
noncomputable def p18:RV:=jB 10 1 p15 p17
noncomputable def p19:RV:=.fn 48 (.cons gR (.cons (.i .i64 3) (.cons (chI [3]) .nil)))
noncomputable def p20:RV:=jB 13 1 p6 p7
noncomputable def p21:RV:=jB 13 1 p20 p19
noncomputable def p22:RV:=jB 13 1 p21 p7
noncomputable def p23:RV:=jB 13 1 p22 p6
noncomputable def p24:RV:=.fn 47 (.cons gR (.cons (.i .i64 3) (.cons (chI [4]) .nil)))
noncomputable def p25:RV:=jB 13 1 p20 p24
noncomputable def p26:RV:=jB 13 1 p25 p7
noncomputable def p27:RV:=jB 13 1 p26 p6
noncomputable def p28:RV:=jB 13 1 p5 p23
noncomputable def p29:RV:=jB 13 1 p28 p4
noncomputable def p30:RV:=jB 12 1 p23 p29
noncomputable def p31:RV:=jB 10 1 p27 p30
noncomputable def p32:RV:=jG 20 1 p0
noncomputable def p33:RV:=jB 12 1 p0 p32
noncomputable def p34:RV:=jB 10 1 p18 p31
noncomputable def p35:RV:=jB 10 1 p34 p33
noncomputable def p36:RV:=jU 15 1 p35
noncomputable def p37:RV:=jU 16 1 p36
noncomputable def p38:RV:=jB 13 1 p33 p31
noncomputable def p39:RV:=jB 10 1 p31 p38
noncomputable def p40:RV:=jB 13 1 p39 p37
noncomputable def p41:RV:=jB 10 1 p0 p1
noncomputable def p42:RV:=jB 10 1 p41 p9
noncomputable def p43:RV:=jB 13 1 p5 p40
noncomputable def p44:RV:=jB 13 1 p43 p5
noncomputable def p45:RV:=jU 15 1 p42
noncomputable def p46:RV:=jU 16 1 p45
noncomputable def p47:RV:=jU 15 1 p40
noncomputable def p48:RV:=jU 16 1 p47
noncomputable def p49:RV:=jB 13 1 p46 p48
noncomputable def p50:RV:=jB 13 1 p49 p27
noncomputable def p51:RV:=jB 13 1 p50 p37
noncomputable def p52:RV:=jB 10 1 p44 p51
noncomputable def p53:RV:=jG 20 1 p2
noncomputable def p54:RV:=jB 10 1 p53 p0
noncomputable def p55:RV:=jB 10 1 p54 p1
noncomputable def p56:RV:=jB 10 1 p55 p9
noncomputable def p57:RV:=jG 20 1 p9
noncomputable def p58:RV:=jB 12 1 p9 p57
noncomputable def p59:RV:=jG 20 1 p1
noncomputable def p60:RV:=jB 12 1 p1 p59
noncomputable def p61:RV:=jB 13 1 p58 p60
noncomputable def p62:RV:=.fn 30 (.cons nR (.cons (opS 4) .nil))
noncomputable def p63:RV:=jB 11 1 p61 p62
noncomputable def p64:RV:=jB 13 1 p58 p52
noncomputable def p65:RV:=jB 13 1 p64 p37
noncomputable def p66:RV:=jB 10 1 p1 p52
noncomputable def z0:RV:=.fn 1 (.cons gR .nil)
noncomputable def z1:RV:=.fn 2 (.cons gR .nil)
noncomputable def z2:RV:=.fn 5 (.cons gR .nil)
noncomputable def z3:RV:=.fn 6 (.cons gR .nil)
noncomputable def z4:RV:=jG 22 2 z3
noncomputable def z5:RV:=.fn 70 (.cons gR (.cons (.i .i64 1) (.cons (.i .i64 0) (.cons (.i .i64 4) .nil))))
noncomputable def z6:RV:=.fn 71 (.cons gR (.cons (.i .i64 2) (.cons (.i .i64 0) (.cons (.i .i64 4) .nil))))
noncomputable def z7:RV:=jB 10 2 z5 z6
noncomputable def z8:RV:=jU 14 2 z0
noncomputable def z9:RV:=jB 13 2 z8 z1
noncomputable def z10:RV:=.fn 100 (.cons gR .nil)
noncomputable def z11:RV:=.fn 101 (.cons gR .nil)
noncomputable def z12:RV:=.fn 102 (.cons gR .nil)
noncomputable def z13:RV:=.fn 103 (.cons gR .nil)
noncomputable def z14:RV:=jB 13 2 z5 z10
noncomputable def z15:RV:=jB 13 2 z14 z5
noncomputable def z16:RV:=jB 13 2 z5 z11
noncomputable def z17:RV:=jB 13 2 z16 z6
noncomputable def z18:RV:=jB 10 2 z15 z17
noncomputable def z19:RV:=.fn 68 (.cons gR (.cons (.i .i64 3) (.cons (.i .i64 4) (.cons (.i .i64 4) .nil))))
noncomputable def z20:RV:=jB 13 2 z7 z4
noncomputable def z21:RV:=jB 13 2 z20 z19
noncomputable def z22:RV:=jB 13 2 z21 z4
noncomputable def z23:RV:=jB 13 2 z22 z7
noncomputable def z24:RV:=.fn 69 (.cons gR (.cons (.i .i64 3) (.cons (.i .i64 3) (.cons (.i .i64 3) .nil))))
noncomputable def z25:RV:=jB 13 2 z20 z24
noncomputable def z26:RV:=jB 13 2 z25 z4
noncomputable def z27:RV:=jB 13 2 z26 z7
noncomputable def z28:RV:=jB 13 2 z6 z27
noncomputable def z29:RV:=jB 13 2 z28 z5
noncomputable def z30:RV:=jB 12 2 z27 z29
noncomputable def z31:RV:=jB 10 2 z23 z30
noncomputable def z32:RV:=jH 21 2 z0 false
noncomputable def z33:RV:=jB 10 2 z18 z31
noncomputable def z34:RV:=jB 10 2 z33 z32
noncomputable def z35:RV:=jU 15 2 z34
noncomputable def z36:RV:=jU 16 2 z35
noncomputable def z37:RV:=jB 13 2 z32 z31
noncomputable def z38:RV:=jB 10 2 z31 z37
noncomputable def z39:RV:=jB 13 2 z38 z36
noncomputable def z40:RV:=jB 10 2 z0 z1
noncomputable def z41:RV:=jB 10 2 z40 z9
noncomputable def z42:RV:=jB 13 2 z6 z39
noncomputable def z43:RV:=jB 13 2 z42 z6
noncomputable def z44:RV:=jU 15 2 z41
noncomputable def z45:RV:=jU 16 2 z44
noncomputable def z46:RV:=jU 15 2 z39
noncomputable def z47:RV:=jU 16 2 z46
noncomputable def z48:RV:=jB 13 2 z45 z47
noncomputable def z49:RV:=jB 13 2 z48 z23
noncomputable def z50:RV:=jB 13 2 z49 z36
noncomputable def z51:RV:=jB 10 2 z43 z50
noncomputable def z52:RV:=jG 22 2 z2
noncomputable def z53:RV:=jB 10 2 z52 z41
noncomputable def z54:RV:=jH 21 2 z9 false
noncomputable def z55:RV:=jH 21 2 z1 false
noncomputable def z56:RV:=.fn 30 (.cons nR (.cons (opS 4) .nil))
noncomputable def z57:RV:=jB 13 2 z54 z55
noncomputable def z58:RV:=jB 11 2 z56 z57
noncomputable def z59:RV:=jB 13 2 z54 z51
noncomputable def z60:RV:=jB 13 2 z59 z36
noncomputable def z61:RV:=jB 10 2 z1 z51
theorem Yxp (g:Gr):evM g 3 [3]=kM g 3 3 3:=Ze7 fun i _=>by
 unfold evB Zl5
 rw[Yj1,Bool.eq_iff_iff]
 simp only[Bool.and_eq_true,Bool.or_eq_true,beq_iff_eq,decide_eq_true_eq,List.length_cons,List.length_nil]
 omega
theorem Yxo (g:Gr):evM g 3 [4]=kM g 3 4 4:=Ze7 fun i _=>by
 unfold evB Zl5
 rw[Yj1,Bool.eq_iff_iff]
 simp only[Bool.and_eq_true,Bool.or_eq_true,beq_iff_eq,decide_eq_true_eq,List.length_cons,List.length_nil]
 omega
theorem Yjy (c:Cx g none [] 0 w0):mnM g.E (poM g.E)=Zbm g.E (poM g.E):=by
 funext i j
 unfold mnM Zbm
 cases h1:poM g.E i j with
 | false=>rfl
 | true=>
  cases e:((Ev.at g.E i).th==(Ev.at g.E j).th) with
  | false=>simp
  | true=>
   have hp:0<(Ev.at g.E i).th:=by
    unfold poM at h1
    rw[Bool.and_eq_true] at h1
    have h2:=h1.2
    unfold poB at h2
    have h3:=Zym c.ck i
    have e3:(Ev.at g.E i).th=(Ev.at g.E j).th:=by simpa using e
    rw[<- e3] at h2
    rcases Classical.em ((Ev.at g.E i).th=0) with q | q
    ·rw[q] at h2;simp at h2
    ·omega
   simp[hp]
theorem Zup (c:Cx g none [] 0 w0):mx g [] (Zac g) p27=mx g [] (Zac g) z23:=by
 show Zax (Zax (Zax (Zax (orM (evM g 1 []) (evM g 2 [])) (Zbm g.E (poM g.E))) (evM g 3 [4])) (Zbm g.E (poM g.E))) (orM (evM g 1 []) (evM g 2 []))=Zax (Zax (Zax (Zax (orM (kM g 1 0 4) (kM g 2 0 4)) (mnM g.E (poM g.E))) (kM g 3 4 4)) (mnM g.E (poM g.E))) (orM (kM g 1 0 4) (kM g 2 0 4))
 rw[PR.k_read (c:=c),Yjy c,Yxo]
theorem Yfx (c:Cx g none [] 0 w0):mx g [] (Zac g) p23=mx g [] (Zac g) z27:=by
 show Zax (Zax (Zax (Zax (orM (evM g 1 []) (evM g 2 [])) (Zbm g.E (poM g.E))) (evM g 3 [3])) (Zbm g.E (poM g.E))) (orM (evM g 1 []) (evM g 2 []))=Zax (Zax (Zax (Zax (orM (kM g 1 0 4) (kM g 2 0 4)) (mnM g.E (poM g.E))) (kM g 3 3 3)) (mnM g.E (poM g.E))) (orM (kM g 1 0 4) (kM g 2 0 4))
 rw[PR.k_read (c:=c),Yjy c,Yxp]
theorem Zm0 (c:Cx g none [] 0 w0):mx g [] (Zac g) p31=mx g [] (Zac g) z31:=by
 show orM (mx g [] (Zac g) p27) (Zfe (mx g [] (Zac g) p23) (Zax (Zax (evM g 2 []) (mx g [] (Zac g) p23)) (evM g 1 [])))=orM (mx g [] (Zac g) z23) (Zfe (mx g [] (Zac g) z27) (Zax (Zax (kM g 2 0 4) (mx g [] (Zac g) z27)) (kM g 1 0 4)))
 rw[Zup c,Yfx c,PR.k_r (c:=c),PR.k_w (c:=c)]
theorem Yp1 (c:Cx g none [] 0 w0):mx g [] (Zac g) p18=mx g [] (Zac g) z18:=by
 show orM (Zax (Zax (evM g 1 []) (Zk7 (Zac g) 0)) (evM g 1 [])) (Zax (Zax (evM g 1 []) (Zk7 (Zac g) 1)) (evM g 2 []))=orM (Zax (Zax (kM g 1 0 4) (Zk7 (Zac g) 0)) (kM g 1 0 4)) (Zax (Zax (kM g 1 0 4) (Zk7 (Zac g) 1)) (kM g 2 0 4))
 rw[PR.k_r (c:=c),PR.k_w (c:=c)]
theorem Yjr (_c:Cx g none [] 0 w0):mx g [] (Zac g) p33=mx g [] (Zac g) z32:=by
 show Zyc g (rfM g)=Zcn g.E (rfM g)
 rw[PR.out_eq]
theorem Yh2 (c:Cx g none [] 0 w0):mx g [] (Zac g) p35=mx g [] (Zac g) z34:=by
 show orM (orM (mx g [] (Zac g) p18) (mx g [] (Zac g) p31)) (mx g [] (Zac g) p33)=orM (orM (mx g [] (Zac g) z18) (mx g [] (Zac g) z31)) (mx g [] (Zac g) z32)
 rw[Yp1 c,Zm0 c,Yjr c]
theorem Ykv (c:Cx g none [] 0 w0):mx g [] (Zac g) p40=mx g [] (Zac g) z39:=by
 show Zax (orM (mx g [] (Zac g) p31) (Zax (mx g [] (Zac g) p33) (mx g [] (Zac g) p31))) (Zco g.n (Zbl (mx g [] (Zac g) p35)))=Zax (orM (mx g [] (Zac g) z31) (Zax (mx g [] (Zac g) z32) (mx g [] (Zac g) z31))) (Zco g.n (Zbl (mx g [] (Zac g) z34)))
 rw[Zm0 c,Yjr c,Yh2 c]
theorem Zuq (c:Cx g none [] 0 w0):mx g [] (Zac g) p52=mx g [] (Zac g) z51:=by
 show orM (Zax (Zax (evM g 2 []) (mx g [] (Zac g) p40)) (evM g 2 [])) (Zax (Zax (Zax (Zco g.n (Zbl (orM (orM (rfM g) (coM g)) (Zax (Zff (rfM g)) (coM g))))) (Zco g.n (Zbl (mx g [] (Zac g) p40)))) (mx g [] (Zac g) p27)) (Zco g.n (Zbl (mx g [] (Zac g) p35))))=orM (Zax (Zax (kM g 2 0 4) (mx g [] (Zac g) z39)) (kM g 2 0 4)) (Zax (Zax (Zax (Zco g.n (Zbl (orM (orM (rfM g) (coM g)) (Zax (Zff (rfM g)) (coM g))))) (Zco g.n (Zbl (mx g [] (Zac g) z39)))) (mx g [] (Zac g) z23)) (Zco g.n (Zbl (mx g [] (Zac g) z34))))
 rw[Ykv c,Zup c,Yh2 c,PR.k_w (c:=c)]
theorem Yxd (c:Cx g none [] 0 w0):mx g [] (Zac g) p56=mx g [] (Zac g) z53:=by
 show orM (orM (orM (Zbm g.E (Zg1 g.E)) (rfM g)) (coM g)) (Zax (Zff (rfM g)) (coM g))=orM (mnM g.E (Zg1 g.E)) (orM (orM (rfM g) (coM g)) (Zax (Zff (rfM g)) (coM g)))
 rw[PR.mn_loc (c:=c)]
 funext i j
 simp only[RelA.orM,Bool.or_assoc]
theorem Yxc (_c:Cx g none [] 0 w0):mx g [] (Zac g) p63=mx g [] (Zac g) z58:=by
 show Zky (Zax (Zyc g (Zax (Zff (rfM g)) (coM g))) (Zyc g (coM g))) (ofM g.n g.Rmw)=Zky (ofM g.n g.Rmw) (Zax (Zcn g.E (Zax (Zff (rfM g)) (coM g))) (Zcn g.E (coM g)))
 rw[PR.out_eq,PR.out_eq]
 funext i j
 exact Bool.and_comm _ _
theorem Yxb (c:Cx g none [] 0 w0):mx g [] (Zac g) p65=mx g [] (Zac g) z60:=by
 show Zax (Zax (Zyc g (Zax (Zff (rfM g)) (coM g))) (mx g [] (Zac g) p52)) (Zco g.n (Zbl (mx g [] (Zac g) p35)))=Zax (Zax (Zcn g.E (Zax (Zff (rfM g)) (coM g))) (mx g [] (Zac g) z51)) (Zco g.n (Zbl (mx g [] (Zac g) z34)))
 rw[Zuq c,Yh2 c,PR.out_eq]
theorem Yxa (c:Cx g none [] 0 w0):mx g [] (Zac g) p66=mx g [] (Zac g) z61:=by
 show orM (coM g) (mx g [] (Zac g) p52)=orM (coM g) (mx g [] (Zac g) z51)
 rw[Zuq c]
noncomputable def Zu1:List (RV×RV):=[(.cons (.tup (.cons (.mp 1) p27)) (.cons (.tup (.cons (.mp 2) z23)) .nil),.b true),(.cons (.tup (.cons (.mp 1) p31)) (.cons (.tup (.cons (.mp 2) z31)) .nil),.b true),(.cons (.tup (.cons (.mp 1) p35)) (.cons (.tup (.cons (.mp 2) z34)) .nil),.b true),(.cons (.tup (.cons (.mp 1) p52)) (.cons (.tup (.cons (.mp 2) z51)) .nil),.b true)]
theorem Ykg (c:Cx g none [] 0 w0):Tells Tryz.prog (rho g none [] 0 w0 (Zac g)) (51,1,chV Zu1):=Zau (by kernel_rfl) (by
 intro x hx
 unfold Zu1 at hx
 simp only[List.mem_cons,List.not_mem_nil,or_false] at hx
 rcases hx with rfl | rfl | rfl | rfl
 ·exact Zf3 c Zqz (Zup c)
 ·exact Zf3 c Zqz (Zm0 c)
 ·exact Zf3 c Zqz (Yh2 c)
 ·exact Zf3 c Zqz (Zuq c))
noncomputable def tl0:List (Nat×Nat×RV):=[(168,2,chF PP.ks),(177,3,chF PR.ks),(175,0,chW Zmj),(152,0,chW Zyt),(122,0,chW Yng),(106,0,chW Zyx),(123,0,chW Zq6),(80,0,chW Zq2),(182,0,chW Zq7),(66,0,chW Zu2),(174,0,chW Zqb),(81,0,chW Ynf),(65,0,chW Zjl),(179,0,chW Yne),(180,0,chW Yni),(62,0,chW Zmn),(91,0,chW Zyu),(101,0,chW Zq3),(96,0,chW Zyr),(109,0,chW Zq5),(142,0,chW Zmk),(94,0,chW Zmh),(163,0,chW Zmm),(104,0,chW Zqa),(178,0,chW Zm8),(93,0,chW Zml),(103,0,chW Zyq),(108,0,chW Zys),(98,0,chW Zq4),(92,0,chW Yd8),(157,0,chW Zmi)]
theorem Zf8 (c:Cx g none [] 0 w0):∀ e∈tl0,Tells Tryz.prog (rho g none [] 0 w0 (Zac g)) e:=by
 unfold tl0
 refine List.forall_mem_cons.2 ⟨Yer c,?_⟩
 refine List.forall_mem_cons.2 ⟨Zy9 c,?_⟩
 refine List.forall_mem_cons.2 ⟨Zvo c,?_⟩
 refine List.forall_mem_cons.2 ⟨Yig c,?_⟩
 refine List.forall_mem_cons.2 ⟨Ysa c,?_⟩
 refine List.forall_mem_cons.2 ⟨Yii c,?_⟩
 refine List.forall_mem_cons.2 ⟨Ycw c,?_⟩
 refine List.forall_mem_cons.2 ⟨Ycs c,?_⟩
 refine List.forall_mem_cons.2 ⟨Ycx c,?_⟩
 refine List.forall_mem_cons.2 ⟨Ykh c,?_⟩
 refine List.forall_mem_cons.2 ⟨Yes c,?_⟩
 refine List.forall_mem_cons.2 ⟨Yr9 c,?_⟩
 refine List.forall_mem_cons.2 ⟨Zri c,?_⟩
 refine List.forall_mem_cons.2 ⟨Yr8 c,?_⟩
 refine List.forall_mem_cons.2 ⟨Ysb c,?_⟩
 refine List.forall_mem_cons.2 ⟨Zvs c,?_⟩
 refine List.forall_mem_cons.2 ⟨Yih c,?_⟩
 refine List.forall_mem_cons.2 ⟨Yct c,?_⟩
 refine List.forall_mem_cons.2 ⟨Yie c,?_⟩
 refine List.forall_mem_cons.2 ⟨Ycv c,?_⟩
 refine List.forall_mem_cons.2 ⟨Zvp c,?_⟩
 refine List.forall_mem_cons.2 ⟨Zvm c,?_⟩
 refine List.forall_mem_cons.2 ⟨Zvr c,?_⟩
 refine List.forall_mem_cons.2 ⟨Yeq c,?_⟩
 refine List.forall_mem_cons.2 ⟨Zza c,?_⟩
 refine List.forall_mem_cons.2 ⟨Zvq c,?_⟩
 refine List.forall_mem_cons.2 ⟨Yid c,?_⟩
 refine List.forall_mem_cons.2 ⟨Yif c,?_⟩
 refine List.forall_mem_cons.2 ⟨Ycu c,?_⟩
 refine List.forall_mem_cons.2 ⟨Ypk c,?_⟩
 refine List.forall_mem_cons.2 ⟨Zvn c,?_⟩
 exact fun _ h=>by cases h
theorem globs:Tryz.prog.globals.size<=100:=of_decide_eq_true (by kernel_rfl)
theorem Zcl (c:Cx g none [] 0 w0) {f k:Nat} (x:Bool) {q:RV} (hs:∀ (b:Nat) (w:World),Rk k w b g.n (mx g [] (Zac g) q)->Tab w->Calls Tryz.prog f #[.pointer (some ⟨b,0,none⟩)] w fun e w'=>e=.returned (.bool x)/\Below w.heap.size w w') :
  ∀ (m:Mp) (w:World) (vs:List Value),(rho g none [] 0 w0 (Zac g)).Old w->Zkv (rho g none [] 0 w0 (Zac g)) m w (.cons (.tup (.cons (.mp k) q)) .nil) vs ->
   Calls Tryz.prog f vs.toArray w (fun e w'=>∃ u:Value,e=.returned u/\Go.Rn.Old w w'/\∀ m',den (rho g none [] 0 w0 (Zac g)) m' (.b x) u):=by
 intro m w vs hw hd
 obtain⟨y,xs,rfl,d1,d2⟩:=dsc_cons hd
 obtain rfl:=dsc_nil d2
 obtain⟨b,rfl,hr⟩:=told d1
 refine(hs b w hr (c.tab.next (Zgk hw))).mono ?_
 rintro e w' ⟨rfl,hb⟩
 exact⟨_,rfl,Za7 hb,fun _=>rfl⟩
theorem Zlm {f:Nat} {vs:Array Value} {w:World} {x:Bool} (h:Calls Tryz.prog f vs w fun e w'=>e=.returned (.bool x)/\w=w'):Calls Tryz.prog f vs w fun e w'=>e=.returned (.bool x)/\Below w.heap.size w w':=h.mono fun _ _ q=>⟨q.1,q.2▸Below.refl _ _⟩
noncomputable def Zqc (b1 b3 b5:Bool):List (RV×RV):=[(.cons (.tup (.cons (.mp 1) p56)) .nil,.b b1),(.cons (.tup (.cons (.mp 1) p35)) .nil,.b b3),(.cons (.tup (.cons (.mp 1) p66)) .nil,.b b5)]
theorem Yet (c:Cx g none [] 0 w0) (b1 b3 b5:Bool) (hb1:b1=true↔Zcz g.n (Zbl (mx g [] (Zac g) p56))) (hb3:b3=true↔Zcz g.n (Zbl (mx g [] (Zac g) p35))) (hb5:b5=true↔Zcz g.n (Zbl (mx g [] (Zac g) p66))):Tells Tryz.prog (rho g none [] 0 w0 (Zac g)) (132,1,chV (Zqc b1 b3 b5)):=Zau (by kernel_rfl) (by
 intro y hy
 unfold Zqc at hy
 simp only[List.mem_cons,List.not_mem_nil,or_false] at hy
 rcases hy with rfl | rfl | rfl
 ·exact Zcl c b1 (fun b w h ht=>Zp5 b g.n _ w h c.gin.e40 ht b1 hb1)
 ·exact Zcl c b3 (fun b w h ht=>Zp5 b g.n _ w h c.gin.e40 ht b3 hb3)
 ·exact Zcl c b5 (fun b w h ht=>Zp5 b g.n _ w h c.gin.e40 ht b5 hb5))
noncomputable def Zu0 (b4:Bool):List (RV×RV):=[(.cons (.tup (.cons (.mp 1) p65)) .nil,.b b4)]
theorem Ykf (c:Cx g none [] 0 w0) (b4:Bool) (hb4:b4=true↔Zcz g.n (mx g [] (Zac g) p65)):Tells Tryz.prog (rho g none [] 0 w0 (Zac g)) (136,1,chV (Zu0 b4)):=Zau (by kernel_rfl) (by
 intro y hy
 unfold Zu0 at hy
 simp only[List.mem_cons,List.not_mem_nil,or_false] at hy
 subst hy
 ·exact Zcl c b4 (fun b w h ht=>Zlm (Ybj b g.n _ w h c.gin.e40 b4 hb4)))
noncomputable def Zm9 (b1 b3 b5:Bool):List (RV×RV):=[(.cons (.tup (.cons (.mp 2) z53)) .nil,.b b1),(.cons (.tup (.cons (.mp 2) z34)) .nil,.b b3),(.cons (.tup (.cons (.mp 2) z61)) .nil,.b b5)]
theorem Zzb (c:Cx g none [] 0 w0) (b1 b3 b5:Bool) (hb1:b1=true↔Zcz g.n (Zbl (mx g [] (Zac g) z53))) (hb3:b3=true↔Zcz g.n (Zbl (mx g [] (Zac g) z34))) (hb5:b5=true↔Zcz g.n (Zbl (mx g [] (Zac g) z61))):Tells Tryz.prog (rho g none [] 0 w0 (Zac g)) (120,1,chV (Zm9 b1 b3 b5)):=Zau (by kernel_rfl) (by
 intro y hy
 unfold Zm9 at hy
 simp only[List.mem_cons,List.not_mem_nil,or_false] at hy
 rcases hy with rfl | rfl | rfl
 ·exact Zcl c b1 (fun b w h ht=>Zjd b g.n _ w h c.gin.e40 b1 hb1)
 ·exact Zcl c b3 (fun b w h ht=>Zjd b g.n _ w h c.gin.e40 b3 hb3)
 ·exact Zcl c b5 (fun b w h ht=>Zjd b g.n _ w h c.gin.e40 b5 hb5))
noncomputable def Zp9 (b4:Bool):List (RV×RV):=[(.cons (.tup (.cons (.mp 2) z60)) .nil,.b b4)]
theorem Yep (c:Cx g none [] 0 w0) (b4:Bool) (hb4:b4=true↔Zcz g.n (mx g [] (Zac g) z60)):Tells Tryz.prog (rho g none [] 0 w0 (Zac g)) (118,1,chV (Zp9 b4)):=Zau (by kernel_rfl) (by
 intro y hy
 unfold Zp9 at hy
 simp only[List.mem_cons,List.not_mem_nil,or_false] at hy
 subst hy
 ·exact Zcl c b4 (fun b w h ht=>Zlm (Ykn b g.n _ w h c.gin.e40 b4 hb4)))
end L20
end ToldP
end
end Go.Proofs.YthcnhbclagegeaaGreatDoor
