/-
  The functions that some laws reach, but for those that are told, in the evaluator's own form, and that this is what the program's text becomes. Conditions: none; these are closed facts.
-/
import Derived.Test.YthcnhbclagegeaaGreatDoorMh
import Derived.Test.YthcnhbclagegeaaGreatDoorMb
import Derived.Test.YthcnhbclagegeaaGreatDoorMd
import Derived.Test.YthcnhbclagegeaaGreatDoorRnZg
import Derived.Test.YthcnhbclagegeaaGreatDoorProg
namespace Go.Proofs.YthcnhbclagegeaaGreatDoor
open Go.RowKit RelA
namespace RelA
def SelfM (n:Nat) (M:Nat→Nat→Bool):Prop:=∃ a,a < n∧M a a=true
theorem hasB_self {n:Nat} {R:Nat→Nat} {M:Nat→Nat→Bool} (h:Lk R M) (a:Nat) (ha:a < n):hasB n R (a:Int) (a:Int)=M a a:=by
 have e:(R a).testBit a=M a a:=by rw [Bool.eq_iff_iff]; exact h a a
 unfold hasB
 simp [ha,e]
end RelA
section
attribute [local irreducible] RelA.rcells
set_option maxRecDepth 20000 in
set_option maxHeartbeats 8000000 in
theorem itself_l (b n:Nat) (M:Nat→Nat→Bool) (w:World) (h:Rl w b n M) (hn:n≤40) (x:Bool) (hx:x=true ↔ SelfM n M) :
  Calls Tryz.prog 136 #[.pointer (some ⟨b,0,none⟩)] w fun e w'=>e=.returned (.bool x)∧w=w':=by
 obtain ⟨⟨R,h1,h2,h3⟩,h4⟩:=h
 have HL:=Lib.hid (len_any b n w h1.c0)
 have HH:=Lib.hid (fun a (ha:a < n)=>(hasB_self h3 a ha) ▸ has_any b n R (a:Int) (a:Int) w h1 hn (fun i _=>by have:=h2 i; omega))
 have HX:=Lib.hid hx
 clear h1 h2 h3 h4 hx
 go_enter Tryz.func136,Tryz.ntmps136
 go_wp2_with fail
 refine HL.out.mono ?_
 rintro e w' ⟨rfl,rfl⟩
 go_wp2_with fail
 go_loopw [6] (fun v wr=>w=wr∧∃ k:Nat,k≤n∧v=.int .i64 k∧Hid (∀ a,a < k→M a a=false)) (fun v _=>n - (intOf v).toNat)
 case atStart=>exact ⟨rfl,0,Nat.zero_le _,rfl,Lib.hid (fun a ha=>by omega)⟩
 case round=>
  obtain ⟨rfl,k,hk,rfl,HD⟩:=hrel
  by_cases hlt:k < n
  ·have hdk:decide ((k:Int) < (n:Int))=true:=by simp; omega
   have hk40:(k:Int) < 40:=by omega
   have HC:=Lib.hid (HH.out k hlt)
   cases hb:M k k
   ·rw [hb] at HC
    have HL2:Hid (∀ a,a < k + 1→M a a=false):=Lib.hid (fun a ha=>by
     by_cases e:a=k
     ·subst e; exact hb
     ·exact HD.out a (by omega))
    clear hb HD
    go_wp2_with fail
    refine HC.out.mono ?_
    rintro e w' ⟨rfl,rfl⟩
    go_wp2_with fail
    go_roundw
    case rel=>exact ⟨trivial,k + 1,by omega,by go_num,HL2⟩
    case measure=>simp [intOf]; omega
   ·rw [hb] at HC
    have HY:=Lib.hid (HX.out.2 ⟨k,hlt,hb⟩)
    clear hb HD
    go_wp2_with fail
    refine HC.out.mono ?_
    rintro e w' ⟨rfl,rfl⟩
    go_wp2_with fail
    go_ret
    exact ⟨by rw [HY.out]; rfl,rfl⟩
  ·have hdk:decide ((k:Int) < (n:Int))=false:=by simp; omega
   have HY:Hid (x=false):=Lib.hid (by
    cases x
    ·rfl
    ·obtain ⟨a,ha,e⟩:=HX.out.1 rfl
     rw [HD.out a (by omega)] at e
     cases e)
   clear HD
   go_wp2_with fail
   go_ret
   exact ⟨by rw [HY.out]; rfl,rfl⟩
end
set_option maxRecDepth 20000 in
set_option maxHeartbeats 8000000 in
theorem self_l (b n:Nat) (M:Nat→Nat→Bool) (w:World) (h:Rr w b n M) (hn:n≤40) (x:Bool) (hx:x=true ↔ SelfM n M) :
  Calls Tryz.prog 118 #[.pointer (some ⟨b,0,none⟩)] w fun e w'=>e=.returned (.bool x)∧w=w':=by
 have hat:=h.at_
 have HAT:=Lib.hid hat
 have hr0:=hat.c0
 have HX:=Lib.hid hx
 clear hat h hx
 go_enter Tryz.func118,Tryz.ntmps118
 go_wp2_with fail
 go_loopw [3] (fun v wr=>w=wr∧∃ k:Nat,k≤n∧v=.int .i64 k∧Hid (∀ a,a < k→M a a=false)) (fun v _=>n - (intOf v).toNat)
 case atStart=>exact ⟨rfl,0,Nat.zero_le _,rfl,Lib.hid (fun a ha=>by omega)⟩
 case round=>
  obtain ⟨rfl,k,hk,rfl,HD⟩:=hrel
  by_cases hlt:k < n
  ·have hdk:decide ((k:Int) < (n:Int))=true:=by simp; omega
   have hki:(k:Int) < (n:Int):=by omega
   have hk40:(k:Int) < 40:=by omega
   have hd:=HAT.out.ci k k (by omega) (by omega)
   cases hb:M k k
   ·rw [hb] at hd
    have HL2:Hid (∀ a,a < k + 1→M a a=false):=Lib.hid (fun a ha=>by
     by_cases e:a=k
     ·subst e; exact hb
     ·exact HD.out a (by omega))
    clear hb HD
    go_wp2_with fail
    go_roundw
    case rel=>exact ⟨trivial,k + 1,by omega,by go_num,HL2⟩
    case measure=>simp [intOf]; omega
   ·rw [hb] at hd
    have HY:=Lib.hid (HX.out.2 ⟨k,hlt,hb⟩)
    clear hb HD
    go_wp2_with fail
    go_ret
    exact ⟨by rw [HY.out]; rfl,rfl⟩
  ·have hdk:decide ((k:Int) < (n:Int))=false:=by simp; omega
   have HY:Hid (x=false):=Lib.hid (by
    cases x
    ·rfl
    ·obtain ⟨a,ha,e⟩:=HX.out.1 rfl
     rw [HD.out a (by omega)] at e
     cases e)
   clear HD
   go_wp2_with fail
   go_ret
   exact ⟨by rw [HY.out]; rfl,rfl⟩
theorem loops_l (b n:Nat) (M:Nat→Nat→Bool) (w:World) (h:Rl w b n M) (hn:n≤40) (ht:Tab w) (x:Bool) (hx:x=true ↔ SelfM n (plusM M)) :
  Calls Tryz.prog 132 #[.pointer (some ⟨b,0,none⟩)] w fun e w'=>e=.returned (.bool x)∧Below w.heap.size w w':=by
 obtain ⟨⟨R,h1,h2,h3⟩,h4⟩:=h
 have hp:Lk (plusR R) (plusM M):=lk_plus h3 (fun i j=>plusM_iff) h2
 have hw:=wf_plusM h4
 have e:loopsB (plusR R)=x:=by
  rw [Bool.eq_iff_iff,loopsB_iff,hx]
  constructor
  ·rintro ⟨i,_,hi⟩
   have hi:plusM M i i=true:=(hp i i).1 hi
   exact ⟨i,(hw i i hi).1,hi⟩
  ·rintro ⟨i,hi,q⟩
   exact ⟨i,by omega,(hp i i).2 q⟩
 rw [← e]
 exact loops_any b n R w h1 h2 ht
theorem rloops_l (b n:Nat) (M:Nat→Nat→Bool) (w:World) (h:Rr w b n M) (hn:n≤40) (x:Bool) (hx:x=true ↔ SelfM n (plusM M)) :
  Calls Tryz.prog 120 #[.pointer (some ⟨b,0,none⟩)] w fun e w'=>e=.returned (.bool x)∧Below w.heap.size w w':=
 rloops_any b n M w h.at_ hn h.wf x (hx.trans ⟨fun ⟨a,ha,q⟩=>⟨a,ha,plusM_iff.1 q⟩,fun ⟨a,ha,q⟩=>⟨a,ha,plusM_iff.2 q⟩⟩)
end Go.Proofs.YthcnhbclagegeaaGreatDoor
namespace Go.Proofs.YthcnhbclagegeaaGreatDoor.txtC
open Go.Rn
def s0:Pa:=.z
def s1:Pa:=(.o .z)
def s2:Pa:=(.i .z)
def s3:Pa:=(.o (.o .z))
def s4:Pa:=(.i (.o .z))
def s5:Pa:=(.o (.i .z))
def s6:Pa:=(.i (.i .z))
def s7:Pa:=(.o (.o (.o .z)))
def s8:Pa:=(.i (.o (.o .z)))
def s9:Pa:=(.o (.i (.o .z)))
def s10:Pa:=(.i (.i (.o .z)))
def s11:Pa:=(.o (.o (.i .z)))
def s12:Pa:=(.i (.o (.i .z)))
def s13:Pa:=(.o (.i (.i .z)))
def s14:Pa:=(.i (.i (.i .z)))
def s15:Pa:=(.o (.o (.o (.o .z))))
def s16:Pa:=(.i (.o (.o (.o .z))))
def s17:Pa:=(.o (.i (.o (.o .z))))
def s18:Pa:=(.i (.i (.o (.o .z))))
def s19:Pa:=(.o (.o (.i (.o .z))))
def s20:Pa:=(.i (.o (.i (.o .z))))
def s21:Pa:=(.o (.i (.i (.o .z))))
def s22:Pa:=(.i (.i (.i (.o .z))))
def s23:Pa:=(.o (.o (.o (.i .z))))
def s24:Pa:=(.i (.o (.o (.i .z))))
def s25:Pa:=(.o (.i (.o (.i .z))))
def s26:Pa:=(.i (.i (.o (.i .z))))
def s27:Pa:=(.o (.o (.i (.i .z))))
def s28:Pa:=(.i (.o (.i (.i .z))))
def s29:Pa:=(.o (.i (.i (.i .z))))
def s30:Pa:=(.i (.i (.i (.i .z))))
def s31:Pa:=(.o (.o (.o (.o (.o .z)))))
def s32:Pa:=(.i (.o (.o (.o (.o .z)))))
def s33:Pa:=(.o (.i (.o (.o (.o .z)))))
def s34:Pa:=(.i (.i (.o (.o (.o .z)))))
def s35:Pa:=(.o (.o (.i (.o (.o .z)))))
def s36:Pa:=(.i (.o (.i (.o (.o .z)))))
def s37:Pa:=(.o (.i (.i (.o (.o .z)))))
def s38:Pa:=(.i (.i (.i (.o (.o .z)))))
def s39:Pa:=(.o (.o (.o (.i (.o .z)))))
def s40:Pa:=(.i (.o (.o (.i (.o .z)))))
def t0:RO:=.t s0
def t1:RO:=.t s1
def t2:RO:=.t s2
def t3:RO:=.t s3
def t4:RO:=.t s4
def t5:RO:=.t s5
def t6:RO:=.t s6
def t7:RO:=.t s7
def t8:RO:=.t s8
def t9:RO:=.t s9
def t10:RO:=.t s10
def t11:RO:=.t s11
def t12:RO:=.t s12
def t13:RO:=.t s13
def t14:RO:=.t s14
def t15:RO:=.t s15
def t16:RO:=.t s16
def t17:RO:=.t s17
def t18:RO:=.t s18
def t19:RO:=.t s19
def t20:RO:=.t s20
def t21:RO:=.t s21
def t22:RO:=.t s22
def t23:RO:=.t s23
def t24:RO:=.t s24
def t25:RO:=.t s25
def t26:RO:=.t s26
def t27:RO:=.t s27
def t28:RO:=.t s28
def t29:RO:=.t s29
def t30:RO:=.t s30
def t31:RO:=.t s31
def t32:RO:=.t s32
def t33:RO:=.t s33
def t34:RO:=.t s34
def t35:RO:=.t s35
def t36:RO:=.t s36
def t37:RO:=.t s37
def t38:RO:=.t s38
def t39:RO:=.t s39
def t40:RO:=.t s40
abbrev Q (d:Pa) (o:RP):RQ:=.q (.d d) .no .nm o
abbrev L (x:RO):RP:=.ld false 1 x
abbrev Z (o:RP):RQ:=.q .no .no .nm o
abbrev oq1 (d g:Pa) (o:RP):RQ:=.q (.d d) (.g g true) .nm o
abbrev M (d:Pa) (x:RO):RQ:=.q (.d d) .no .nm (.mv x)
abbrev om1 (d g:Pa) (x:RO):RQ:=.q (.d d) (.g g true) .nm (.mv x)
abbrev i6 (n:Nat):RV:=.i .i64 (.ofNat n)
abbrev k6 (n:Nat):RO:=.c (.i .i64 (.ofNat n))
abbrev kT:RO:=.c (.b true)
abbrev kF:RO:=.c (.b false)
def rc11:RF:=.f 1 (.sq (.rg [Q s1 (.bx t0),Q s2 (.mv kF)]) (.sq (.sq (.rg [Q s5 (.ld true 8 t1),Q s6 (.bd (.cons (i6 0) (.cons .ns (.cons .ns (.cons .ns (.cons .ns (.cons .ns (.cons .ns (.cons .ns .nil)))))))) [(0,8,t5)]),Q s7 (.cl 40 [t6]),Q s8 (.ln false t7),Q s9 (.mv (k6 0))]) (.bl 0 (.lp (.sq (.rg [Q s10 (.bn .lss t9 t8)]) (.sq (.cd t10 .sk (.ex 0)) (.sq (.bl 1 (.sq (.rg [Q s11 (.ia 1 t7 t9),Q s12 (.ld true 1 t11),Q s4 (.al (.cons .nf .nil)),Z (.st 1 t4 t12)]) (.sq (.rg [Q s13 (.fa 0 t4),Q s14 (L t13),Q s15 (.cf t14 []),Q s16 (.nt t15)]) (.cd t16 (.sq (.rg [Q s2 (.mv kF)]) .rt) .sk)))) (.rg [Q s17 (.bn .add t9 (k6 1)),M s9 t17]))))))) (.sq (.rg [Q s2 (.mv kT)]) .rt))) [.t s2]
theorem rc11_ok:compF Tryz.prog 11=some rc11:=by kernel_rfl
def rc12:RF:=.f 1 (.sq (.rg [Q s1 (.bx t0),Q s2 (.mv kF)]) (.sq (.dr [Q s3 (.ld true 8 t1),.q (.d s4) .no .ef (.cl 38 [t3]),.q (.d s5) .no (.ck 0 1) (.ld true 8 t1),.q (.d s6) .no .ef (.cl 41 [t5]),Q s7 (.bq false t4 t6),M s8 t7,oq1 s9 s8 (.ld true 8 t1),.q (.d s10) (.g s8 true) .ef (.cl 39 [t9]),.q (.d s11) (.g s8 true) (.ck 2 3) (.ld true 8 t1),.q (.d s12) (.g s8 true) .ef (.cl 42 [t11]),oq1 s13 s8 (.bq false t10 t12),Q s14 (.pick t8 t13 kF),M s15 t14,oq1 s16 s15 (.ld true 8 t1),.q (.d s17) (.g s15 true) .ef (.cl 36 [t16]),.q (.d s18) (.g s15 true) (.ck 4 5) (.ld true 8 t1),.q (.d s19) (.g s15 true) .ef (.cl 43 [t18]),oq1 s20 s15 (.bq false t17 t19),Q s21 (.pick t15 t20 kF),M s22 t21,oq1 s23 s22 (.ld true 8 t1),.q (.d s24) (.g s22 true) .ef (.cl 11 [t23]),.q (.d s25) (.g s22 true) (.ck 6 7) (.ld true 8 t1),.q (.d s26) (.g s22 true) .ef (.cl 44 [t25]),oq1 s27 s22 (.bq false t24 t26),Q s28 (.pick t22 t27 kF),M s2 t28]) .rt)) [.t s2]
theorem rc12_ok:compF Tryz.prog 12=some rc12:=by kernel_rfl
def rc21:RF:=.f 1 (.sq (.rg [Q s1 (.bx t0),Q s2 (.mv (.c .np))]) (.sq (.rg [Q s4 (.ld true 8 t1),Q s5 (.mf 60 [t1]),Q s6 (.mf 61 [t1]),Q s7 (.bs (.cons .nf (.cons .nf .nil)) 2 [(0,1,t5),(1,1,t6)]),Q s8 (.cl 59 [t4,t7]),M s3 t8]) (.sq (.dr [Q s9 (.ld true 8 t1),.q (.d s10) .no .ef (.cl 65 [t9,(k6 1),(.c .ns)]),M s11 t3,.q (.d s12) .no .ef (.cl 66 [t11]),.q (.d s13) .no (.ck 0 2) (.ld true 8 t1),.q (.d s14) .no .ef (.cl 65 [t13,(k6 2),(.c .ns)]),Q s15 (.bs (.cons .np (.cons .np .nil)) 2 [(0,1,t12),(1,1,t14)]),.q (.d s16) .no .ef (.cl 64 [t10,t15]),M s2 t16]) .rt))) [.t s2]
theorem rc21_ok:compF Tryz.prog 21=some rc21:=by kernel_rfl
def rc24:RF:=.f 1 (.sq (.rg [Q s1 (.bx t0),Q s2 (.mv (.c .np))]) (.sq (.rg [Q s3 (.ld true 8 t1),Q s4 (.mf 68 [t1]),Q s5 (.mf 70 [t1]),Q s6 (.mf 71 [t1]),Q s7 (.mf 72 [t1]),Q s8 (.mf 73 [t1]),Q s9 (.bs (.cons .nf (.cons .nf (.cons .nf (.cons .nf (.cons .nf .nil))))) 5 [(0,1,t4),(1,1,t5),(2,1,t6),(3,1,t7),(4,1,t8)]),Q s10 (.cl 59 [t3,t9]),M s2 t10]) .rt)) [.t s2]
theorem rc24_ok:compF Tryz.prog 24=some rc24:=by kernel_rfl
def rc25:RF:=.f 1 (.sq (.rg [Q s1 (.bx t0),Q s2 (.mv (.c .np))]) (.sq (.rg [Q s3 (.ld true 8 t1),Q s4 (.mf 74 [t1]),Q s5 (.mf 76 [t1]),Q s6 (.mf 77 [t1]),Q s7 (.bs (.cons .nf (.cons .nf (.cons .nf .nil))) 3 [(0,1,t4),(1,1,t5),(2,1,t6)]),Q s8 (.cl 59 [t3,t7]),M s2 t8]) .rt)) [.t s2]
theorem rc25_ok:compF Tryz.prog 25=some rc25:=by kernel_rfl
def rc27:RF:=.f 1 (.sq (.rg [Q s1 (.bx t0),Q s2 (.mv (.c .np))]) (.sq (.dr [Q s6 (.ld true 8 t1),.q (.d s7) .no .ef (.cl 81 [t6]),.q (.d s8) .no (.ck 0 1) (.ld true 8 t1),.q (.d s9) .no .ef (.cl 65 [t8,(k6 3),(.c .ns)]),.q (.d s10) .no (.ck 0 2) (.ld true 8 t1),Q s11 (.bs (.cons (i6 0) .nil) 1 [(0,1,(k6 2))]),.q (.d s12) .no .ef (.cl 65 [t10,(k6 2),t11]),Q s3 (.al (.cons .np .nil)),Q s4 (.al (.cons .np .nil)),Q s5 (.al (.cons .np .nil)),.q .no .no .ef (.st 1 t3 t7),.q .no .no .ef (.st 1 t4 t9),.q .no .no .ef (.st 1 t5 t12)]) (.sq (.rg [Q s13 (.ld true 8 t1),Q s14 (.mf 86 [t3,t5]),Q s15 (.mf 87 [t1,t3]),Q s16 (.mf 88 [t3,t4]),Q s17 (.mf 89 [t4,t3]),Q s18 (.mf 90 [t5,t1]),Q s19 (.bs (.cons .nf (.cons .nf (.cons .nf (.cons .nf (.cons .nf .nil))))) 5 [(0,1,t14),(1,1,t15),(2,1,t16),(3,1,t17),(4,1,t18)]),Q s20 (.cl 59 [t13,t19]),M s2 t20]) .rt))) [.t s2]
theorem rc27_ok:compF Tryz.prog 27=some rc27:=by kernel_rfl
def rc28:RF:=.f 1 (.sq (.rg [Q s1 (.bx t0),Q s2 (.mv (.c .np))]) (.sq (.dr [Q s6 (.ld true 8 t1),.q (.d s7) .no .ef (.cl 92 [t6]),.q (.d s8) .no (.ck 0 1) (.ld true 8 t1),.q (.d s9) .no .ef (.cl 93 [t8,(k6 3),(k6 1),(k6 4)]),M s3 t7,M s4 t9]) (.sq (.dr [M s10 t3,Q s11 (.ld true 8 t1),.q (.d s12) .no .ef (.cl 95 [t11]),.q (.d s13) .no .ef (.cl 94 [t10,t12]),.q (.d s14) .no (.ck 0 2) (.ld true 8 t1),.q (.d s15) .no .ef (.cl 97 [t14]),M s16 t3,.q (.d s17) .no .ef (.cl 94 [t15,t16]),.q (.d s18) .no .ef (.cl 96 [t13,t17]),M s19 t3,M s20 t4,.q (.d s21) .no .ef (.cl 94 [t19,t20]),.q (.d s22) .no .ef (.cl 96 [t18,t21]),M s23 t4,M s24 t3,.q (.d s25) .no .ef (.cl 94 [t23,t24]),.q (.d s26) .no .ef (.cl 96 [t22,t25]),M s5 t26]) (.sq (.dr [M s27 t5,Q s28 (.ld true 8 t1),.q (.d s29) .no .ef (.cl 95 [t28]),.q (.d s30) .no (.ck 0 1) (.ld true 8 t1),.q (.d s31) .no .ef (.cl 98 [t30]),.q (.d s32) .no .ef (.cl 94 [t29,t31]),.q (.d s33) .no (.ck 0 3) (.ld true 8 t1),.q (.d s34) .no .ef (.cl 99 [t33]),.q (.d s35) .no .ef (.cl 94 [t32,t34]),.q (.d s36) .no .ef (.cl 96 [t27,t35]),M s2 t36]) .rt)))) [.t s2]
theorem rc28_ok:compF Tryz.prog 28=some rc28:=by kernel_rfl
def rc30:RF:=.f 1 (.sq (.rg [Q s1 (.bx t0),Q s2 (.mv (.c .np))]) (.sq (.rg [Q s5 (.ld true 8 t1),Q s6 (.cl 93 [t5,(k6 1),(k6 0),(k6 1)]),M s3 t6]) (.sq (.dr [.q (.d s7) .no (.ck 0 1) (.ld true 8 t1),Q s8 (.ld true 8 t1),.q (.d s9) .no .ef (.cl 103 [t8]),.q (.d s10) .no .ef (.cl 102 [t7,t9]),M s4 t10]) (.sq (.dr [M s11 t3,Q s12 (.ld true 8 t1),.q (.d s13) .no .ef (.cl 29 [t12]),M s14 t4,.q (.d s15) .no .ef (.cl 96 [t13,t14]),.q (.d s16) .no .ef (.cl 104 [t15]),.q (.d s17) .no .ef (.cl 94 [t11,t16]),.q (.d s18) .no (.ck 0 4) (.ld true 8 t1),.q (.d s19) .no .ef (.cl 99 [t18]),.q (.d s20) .no .ef (.cl 94 [t17,t19]),M s2 t20]) .rt)))) [.t s2]
theorem rc30_ok:compF Tryz.prog 30=some rc30:=by kernel_rfl
def rc31:RF:=.f 1 (.sq (.rg [Q s1 (.bx t0),Q s2 (.mv (.c .np))]) (.sq (.dr [.q (.d s4) .no (.ck 0 1) (.ld true 8 t1),Q s5 (.ld true 8 t1),.q (.d s6) .no .ef (.cl 105 [t5]),.q (.d s7) .no .ef (.cl 69 [t4,t6]),.q (.d s8) .no (.ck 0 3) (.ld true 8 t1),.q (.d s9) .no (.ck 0 2) (.ld true 8 t1),.q (.d s10) .no .ef (.cl 63 [t9]),.q (.d s11) .no .ef (.cl 69 [t8,t10]),.q (.d s12) .no .ef (.cl 80 [t7,t11]),M s3 t12]) (.sq (.rg [M s13 t3,Q s14 (.ld true 8 t1),Q s15 (.cl 81 [t14]),Q s16 (.cl 106 [t13,t15]),M s2 t16]) .rt))) [.t s2]
theorem rc31_ok:compF Tryz.prog 31=some rc31:=by kernel_rfl
def rc32:RF:=.f 1 (.sq (.rg [Q s1 (.bx t0),Q s2 (.mv (.c .np))]) (.sq (.dr [.q (.d s5) .no (.ck 0 1) (.ld true 8 t1),Q s6 (.ld true 8 t1),.q (.d s7) .no .ef (.cl 108 [t6]),.q (.d s8) .no .ef (.cl 107 [t5,t7]),.q (.d s9) .no (.ck 0 3) (.ld true 8 t1),.q (.d s10) .no (.ck 0 2) (.ld true 8 t1),.q (.d s11) .no .ef (.cl 103 [t10]),.q (.d s12) .no .ef (.cl 107 [t9,t11]),M s3 t8,M s4 t12]) (.sq (.dr [M s13 t3,M s14 t4,.q (.d s15) .no .ef (.cl 94 [t13,t14]),.q (.d s16) .no (.ck 0 1) (.ld true 8 t1),.q (.d s17) .no .ef (.cl 92 [t16]),.q (.d s18) .no .ef (.cl 109 [t15,t17]),M s2 t18]) .rt))) [.t s2]
theorem rc32_ok:compF Tryz.prog 32=some rc32:=by kernel_rfl
def rc33:RF:=.f 1 (.sq (.rg [Q s1 (.bx t0),Q s2 (.mv (.c .np))]) (.sq (.dr [Q s5 (.ld true 8 t1),Q s6 (.bs (.cons (i6 0) .nil) 1 [(0,1,(k6 4))]),.q (.d s7) .no .ef (.cl 65 [t5,(k6 3),t6]),.q (.d s8) .no (.ck 0 1) (.ld true 8 t1),.q (.d s9) .no .ef (.cl 110 [t8]),M s3 t7,M s4 t9]) (.sq (.rg [M s10 t3,M s11 t4,Q s12 (.ld true 8 t1),Q s13 (.cl 111 [t12]),M s14 t4,M s15 t3,Q s16 (.bs (.cons .np (.cons .np (.cons .np (.cons .np .nil)))) 4 [(0,1,t11),(1,1,t13),(2,1,t14),(3,1,t15)]),Q s17 (.cl 64 [t10,t16]),M s2 t17]) .rt))) [.t s2]
theorem rc33_ok:compF Tryz.prog 33=some rc33:=by kernel_rfl
def rc34:RF:=.f 1 (.sq (.rg [Q s1 (.bx t0),Q s2 (.mv (.c .np))]) (.sq (.dr [Q s5 (.ld true 8 t1),.q (.d s6) .no .ef (.cl 93 [t5,(k6 3),(k6 4),(k6 4)]),.q (.d s7) .no (.ck 0 1) (.ld true 8 t1),.q (.d s8) .no .ef (.cl 112 [t7]),M s3 t6,M s4 t8]) (.sq (.dr [M s9 t3,M s10 t4,.q (.d s11) .no .ef (.cl 94 [t9,t10]),.q (.d s12) .no (.ck 0 1) (.ld true 8 t1),.q (.d s13) .no .ef (.cl 113 [t12]),.q (.d s14) .no .ef (.cl 94 [t11,t13]),M s15 t4,.q (.d s16) .no .ef (.cl 94 [t14,t15]),M s17 t3,.q (.d s18) .no .ef (.cl 94 [t16,t17]),M s2 t18]) .rt))) [.t s2]
theorem rc34_ok:compF Tryz.prog 34=some rc34:=by kernel_rfl
def rc35:RF:=.f 1 (.sq (.rg [Q s1 (.bx t0),Q s2 (.mv (.c .np))]) (.sq (.dr [.q (.d s4) .no (.ck 0 1) (.ld true 8 t1),Q s5 (.ld true 8 t1),.q (.d s6) .no .ef (.cl 103 [t5]),.q (.d s7) .no .ef (.cl 107 [t4,t6]),M s3 t7]) (.sq (.dr [M s8 t3,Q s9 (.ld true 8 t1),.q (.d s10) .no .ef (.cl 28 [t9]),.q (.d s11) .no .ef (.cl 96 [t8,t10]),.q (.d s12) .no (.ck 0 2) (.ld true 8 t1),.q (.d s13) .no .ef (.cl 30 [t12]),.q (.d s14) .no .ef (.cl 96 [t11,t13]),.q (.d s15) .no (.ck 0 4) (.ld true 8 t1),.q (.d s16) .no .ef (.cl 32 [t15]),.q (.d s17) .no .ef (.cl 96 [t14,t16]),.q (.d s18) .no (.ck 0 6) (.ld true 8 t1),.q (.d s19) .no .ef (.cl 34 [t18]),.q (.d s20) .no .ef (.cl 96 [t17,t19]),M s2 t20]) .rt))) [.t s2]
theorem rc35_ok:compF Tryz.prog 35=some rc35:=by kernel_rfl
def rc36:RF:=.f 1 (.sq (.rg [Q s1 (.bx t0),Q s2 (.mv kF)]) (.sq (.rg [Q s3 (.ld true 8 t1),Q s4 (.bd (.cons (i6 0) (.cons .ns (.cons .ns (.cons .ns (.cons .ns (.cons .ns (.cons .ns (.cons .ns .nil)))))))) [(0,8,t3)]),Q s5 (.cl 114 [t4]),M s2 t5]) .rt)) [.t s2]
theorem rc36_ok:compF Tryz.prog 36=some rc36:=by kernel_rfl
def rc38:RF:=.f 1 (.sq (.rg [Q s1 (.bx t0),Q s2 (.mv kF)]) (.sq (.rg [Q s3 (.ld true 8 t1),Q s4 (.bd (.cons (i6 0) (.cons .ns (.cons .ns (.cons .ns (.cons .ns (.cons .ns (.cons .ns (.cons .ns .nil)))))))) [(0,8,t3)]),Q s5 (.cl 115 [t4]),M s2 t5]) .rt)) [.t s2]
theorem rc38_ok:compF Tryz.prog 38=some rc38:=by kernel_rfl
def rc39:RF:=.f 1 (.sq (.rg [Q s1 (.bx t0),Q s2 (.mv kF)]) (.sq (.rg [Q s3 (.ld true 8 t1),Q s4 (.bd (.cons (i6 0) (.cons .ns (.cons .ns (.cons .ns (.cons .ns (.cons .ns (.cons .ns (.cons .ns .nil)))))))) [(0,8,t3)]),Q s5 (.cl 116 [t4]),M s2 t5]) .rt)) [.t s2]
theorem rc39_ok:compF Tryz.prog 39=some rc39:=by kernel_rfl
def rc40:RF:=.f 1 (.sq (.rg [Q s1 (.bx t0),Q s2 (.mv (.c .ns))]) (.sq (.rg [Q s3 (.ld true 8 t1),Q s4 (.mf 16777333 [t3]),Q s5 (.bd (.cons .nf .nil) [(0,1,t4)]),Q s6 (.ld true 8 t1),Q s7 (.mf 16777332 [t6]),Q s8 (.bd (.cons .nf .nil) [(0,1,t7)]),Q s9 (.ld true 8 t1),Q s10 (.mf 16777331 [t9]),Q s11 (.bd (.cons .nf .nil) [(0,1,t10)]),Q s12 (.ld true 8 t1),Q s13 (.mf 16777330 [t12]),Q s14 (.bd (.cons .nf .nil) [(0,1,t13)]),Q s15 (.bs (.cons .nf (.cons .nf (.cons .nf (.cons .nf .nil)))) 4 [(0,1,t5),(1,1,t8),(2,1,t11),(3,1,t14)]),M s2 t15]) .rt)) [.t s2]
theorem rc40_ok:compF Tryz.prog 40=some rc40:=by kernel_rfl
def rc41:RF:=.f 1 (.sq (.rg [Q s1 (.bx t0),Q s2 (.mv kF)]) (.sq (.rg [Q s4 (.ld true 8 t1),Q s5 (.cl 112 [t4]),M s3 t5]) (.sq (.rg [M s6 t3,Q s7 (.cl 118 [t6]),Q s8 (.nt t7),M s9 t8,om1 s10 s9 t3,oq1 s11 s9 (.ld true 8 t1),oq1 s12 s9 (.cl 113 [t11]),oq1 s13 s9 (.cl 94 [t10,t12]),oq1 s14 s9 (.cl 118 [t13]),oq1 s15 s9 (.nt t14),Q s16 (.pick t9 t15 kF),M s2 t16]) .rt))) [.t s2]
theorem rc41_ok:compF Tryz.prog 41=some rc41:=by kernel_rfl
def rc43:RF:=.f 1 (.sq (.rg [Q s1 (.bx t0),Q s2 (.mv kF)]) (.sq (.rg [Q s3 (.ld true 8 t1),Q s4 (.cl 35 [t3]),Q s5 (.cl 120 [t4]),Q s6 (.nt t5),M s2 t6]) .rt)) [.t s2]
theorem rc43_ok:compF Tryz.prog 43=some rc43:=by kernel_rfl
def rc44:RF:=.f 1 (.sq (.rg [Q s1 (.bx t0),Q s2 (.mv kF)]) (.sq (.rg [Q s3 (.ld true 8 t1),Q s4 (.cl 7 [t3]),M s5 t4,oq1 s6 s5 (.ld true 8 t1),oq1 s7 s5 (.cl 41 [t6]),Q s8 (.pick t5 t7 kF),M s9 t8,oq1 s10 s9 (.ld true 8 t1),oq1 s11 s9 (.cl 42 [t10]),Q s12 (.pick t9 t11 kF),M s13 t12,oq1 s14 s13 (.ld true 8 t1),oq1 s15 s13 (.cl 43 [t14]),Q s16 (.pick t13 t15 kF),M s2 t16]) .rt)) [.t s2]
theorem rc44_ok:compF Tryz.prog 44=some rc44:=by kernel_rfl
def rc59:RF:=.f 2 (.sq (.rg [Q s2 (.bx t0),Q s4 (.mv (.c .np))]) (.sq (.rg [Q s8 (.ld true 8 t2),Q s9 (.cl 75 [t8,(.c .ns)]),M s5 t9]) (.sq (.sq (.rg [M s10 t1,Q s11 (.ln false t10),Q s12 (.mv (k6 0))]) (.bl 0 (.lp (.sq (.rg [Q s13 (.bn .lss t12 t11)]) (.sq (.cd t13 .sk (.ex 0)) (.sq (.bl 1 (.sq (.rg [Q s14 (.ia 1 t10 t12),Q s15 (L t14),M s7 t15]) (.rg [M s16 t5,M s17 t7,Q s18 (.cf t17 []),Q s19 (.cl 122 [t16,t18]),M s5 t19]))) (.rg [Q s20 (.bn .add t12 (k6 1)),M s12 t20]))))))) (.sq (.rg [M s21 t5,M s4 t21]) .rt)))) [.t s4]
theorem rc59_ok:compF Tryz.prog 59=some rc59:=by kernel_rfl
def rc60:RF:=.f 1 (.sq (.rg [Q s1 (.mv (.c .np))]) (.sq (.rg [Q s2 (.ld true 8 t0),Q s3 (.cl 25 [t2]),M s1 t3]) .rt)) [.t s1]
theorem rc60_ok:compF Tryz.prog 60=some rc60:=by kernel_rfl
def rc61:RF:=.f 1 (.sq (.rg [Q s1 (.mv (.c .np))]) (.sq (.dr [.q (.d s2) .no (.ck 0 1) (.ld true 8 t0),Q s3 (.ld true 8 t0),.q (.d s4) .no .ef (.cl 63 [t3]),.q (.d s5) .no .ef (.cl 62 [t2,t4]),M s1 t5]) .rt)) [.t s1]
theorem rc61_ok:compF Tryz.prog 61=some rc61:=by kernel_rfl
def rc63:RF:=.f 1 (.sq (.rg [Q s1 (.bx t0),Q s2 (.mv (.c .np))]) (.sq (.dr [.q (.d s3) .no .ef (.cl 149 []),.q (.d s4) .no .ef (.ml 2 .nf false t3 (.c (.s [114,102]))),.q (.d s5) .no (.ck 0 2) (.ld true 8 t1),.q (.d s6) .no .ef (.cf t4 [t5]),M s2 t6]) .rt)) [.t s2]
theorem rc63_ok:compF Tryz.prog 63=some rc63:=by kernel_rfl
def rc64:RF:=.f 2 (.sq (.rg [Q s4 (.mv (.c .np))]) (.sq (.sq (.rg [M s7 t1,Q s8 (.ln false t7),Q s9 (.mv (k6 0))]) (.bl 0 (.lp (.sq (.rg [Q s10 (.bn .lss t9 t8)]) (.sq (.cd t10 .sk (.ex 0)) (.sq (.bl 1 (.sq (.rg [Q s11 (.ia 1 t7 t9),Q s12 (L t11),M s6 t12]) (.rg [M s13 t0,M s14 t6,Q s15 (.cl 80 [t13,t14]),M s0 t15]))) (.rg [Q s16 (.bn .add t9 (k6 1)),M s9 t16]))))))) (.sq (.rg [M s17 t0,M s4 t17]) .rt))) [.t s4]
theorem rc64_ok:compF Tryz.prog 64=some rc64:=by kernel_rfl
def rc68:RF:=.f 1 (.sq (.rg [Q s1 (.mv (.c .np))]) (.sq (.dr [.q (.d s2) .no (.ck 0 1) (.ld true 8 t0),Q s3 (.ld true 8 t0),.q (.d s4) .no .ef (.cl 63 [t3]),.q (.d s5) .no .ef (.cl 69 [t2,t4]),M s1 t5]) .rt)) [.t s1]
theorem rc68_ok:compF Tryz.prog 68=some rc68:=by kernel_rfl
def rc69:RF:=.f 2 (.sq (.rg [Q s2 (.bx t0),Q s4 (.mv (.c .np))]) (.sq (.rg [M s5 t1,Q s6 (.ld true 8 t2),M s7 t1,Q s8 (.cl 62 [t6,t7]),Q s9 (.cl 123 [t5,t8]),M s4 t9]) .rt)) [.t s4]
theorem rc69_ok:compF Tryz.prog 69=some rc69:=by kernel_rfl
def rc70:RF:=.f 1 (.sq (.rg [Q s1 (.mv (.c .np))]) (.sq (.rg [Q s2 (.ld true 8 t0),Q s3 (.cl 27 [t2]),M s1 t3]) .rt)) [.t s1]
theorem rc70_ok:compF Tryz.prog 70=some rc70:=by kernel_rfl
def rc71:RF:=.f 1 (.sq (.rg [Q s1 (.mv (.c .np))]) (.sq (.rg [Q s2 (.ld true 8 t0),Q s3 (.cl 21 [t2]),M s1 t3]) .rt)) [.t s1]
theorem rc71_ok:compF Tryz.prog 71=some rc71:=by kernel_rfl
def rc72:RF:=.f 1 (.sq (.rg [Q s1 (.mv (.c .np))]) (.sq (.rg [Q s2 (.ld true 8 t0),Q s3 (.cl 31 [t2]),M s1 t3]) .rt)) [.t s1]
theorem rc72_ok:compF Tryz.prog 72=some rc72:=by kernel_rfl
def rc73:RF:=.f 1 (.sq (.rg [Q s1 (.mv (.c .np))]) (.sq (.rg [Q s2 (.ld true 8 t0),Q s3 (.cl 33 [t2]),M s1 t3]) .rt)) [.t s1]
theorem rc73_ok:compF Tryz.prog 73=some rc73:=by kernel_rfl
def rc74:RF:=.f 1 (.sq (.rg [Q s1 (.mv (.c .np))]) (.sq (.rg [Q s2 (.ld true 8 t0),Q s3 (.fa 5 t0),Q s4 (L t3),Q s5 (.cl 75 [t2,t4]),M s1 t5]) .rt)) [.t s1]
theorem rc74_ok:compF Tryz.prog 74=some rc74:=by kernel_rfl
def rc75:RF:=.f 2 (.sq (.rg [Q s2 (.bx t0),Q s4 (.mv (.c .np))]) (.sq (.rg [Q s5 (.fa 1 t2),Q s6 (L t5),Q s7 (.ln false t6),M s8 t1,Q s9 (.cl 152 [t7,t8]),M s4 t9]) .rt)) [.t s4]
theorem rc75_ok:compF Tryz.prog 75=some rc75:=by kernel_rfl
def rc76:RF:=.f 1 (.sq (.rg [Q s1 (.mv (.c .np))]) (.sq (.rg [Q s2 (.ld true 8 t0),Q s3 (.fa 6 t0),Q s4 (L t3),Q s5 (.cl 75 [t2,t4]),M s1 t5]) .rt)) [.t s1]
theorem rc76_ok:compF Tryz.prog 76=some rc76:=by kernel_rfl
def rc77:RF:=.f 1 (.sq (.rg [Q s1 (.mv (.c .np))]) (.sq (.rg [Q s3 (.ld true 8 t0),Q s4 (.cl 78 [t3,(.c (.fn 79 .nil))]),M s2 t4]) (.sq (.rg [M s5 t2,Q s6 (.ld true 8 t0),Q s7 (.cl 81 [t6]),Q s8 (.cl 80 [t5,t7]),M s1 t8]) .rt))) [.t s1]
theorem rc77_ok:compF Tryz.prog 77=some rc77:=by kernel_rfl
def rc79:RF:=.f 1 (.sq (.rg [Q s1 (.bx t0),Q s2 (.mv kF)]) (.sq (.rg [Q s3 (.fa 1 t1),Q s4 (L t3),Q s5 (.bn .eql t4 (k6 1)),M s6 t5,oq1 s7 s6 (.fa 5 t1),oq1 s8 s6 (L t7),Q s9 (.pick t6 t8 kF),M s2 t9]) .rt)) [.t s2]
theorem rc79_ok:compF Tryz.prog 79=some rc79:=by kernel_rfl
def rc86:RF:=.f 2 (.sq (.rg [Q s2 (.mv (.c .np))]) (.sq (.rg [Q s3 (L t0),Q s4 (L t1),Q s5 (.cl 80 [t3,t4]),M s2 t5]) .rt)) [.t s2]
theorem rc86_ok:compF Tryz.prog 86=some rc86:=by kernel_rfl
def rc87:RF:=.f 2 (.sq (.rg [Q s2 (.mv (.c .np))]) (.sq (.dr [Q s3 (.ld true 8 t0),Q s4 (.bs (.cons (i6 0) .nil) 1 [(0,1,(k6 1))]),.q (.d s5) .no .ef (.cl 65 [t3,(k6 1),t4]),.q (.d s6) .no (.ck 0 1) (L t1),.q (.d s7) .no .ef (.cl 80 [t5,t6]),M s2 t7]) .rt)) [.t s2]
theorem rc87_ok:compF Tryz.prog 87=some rc87:=by kernel_rfl
def rc88:RF:=.f 2 (.sq (.rg [Q s2 (.mv (.c .np))]) (.sq (.rg [Q s3 (L t0),Q s4 (L t1),Q s5 (.cl 80 [t3,t4]),M s2 t5]) .rt)) [.t s2]
theorem rc88_ok:compF Tryz.prog 88=some rc88:=by kernel_rfl
def rc89:RF:=.f 2 (.sq (.rg [Q s2 (.mv (.c .np))]) (.sq (.rg [Q s3 (L t0),Q s4 (L t1),Q s5 (.cl 80 [t3,t4]),M s2 t5]) .rt)) [.t s2]
theorem rc89_ok:compF Tryz.prog 89=some rc89:=by kernel_rfl
def rc90:RF:=.f 2 (.sq (.rg [Q s2 (.mv (.c .np))]) (.sq (.dr [.q (.d s3) .no (.ck 0 2) (L t0),Q s4 (.ld true 8 t1),.q (.d s5) .no .ef (.cl 91 [t4]),.q (.d s6) .no (.ck 0 1) (.ld true 8 t1),.q (.d s7) .no .ef (.cl 65 [t6,(k6 2),(.c .ns)]),Q s8 (.bs (.cons .np (.cons .np .nil)) 2 [(0,1,t5),(1,1,t7)]),.q (.d s9) .no .ef (.cl 64 [t3,t8]),M s2 t9]) .rt)) [.t s2]
theorem rc90_ok:compF Tryz.prog 90=some rc90:=by kernel_rfl
def rc95:RF:=.f 1 (.sq (.rg [Q s1 (.bx t0),Q s2 (.mv (.c .np))]) (.sq (.rg [Q s3 (.ld true 8 t1),Q s4 (.cl 93 [t3,(k6 2),(k6 2),(k6 2)]),M s2 t4]) .rt)) [.t s2]
theorem rc95_ok:compF Tryz.prog 95=some rc95:=by kernel_rfl
def rc97:RF:=.f 1 (.sq (.rg [Q s1 (.bx t0),Q s2 (.mv (.c .np))]) (.sq (.rg [Q s3 (.ld true 8 t1),Q s4 (.cl 93 [t3,(k6 1),(k6 1),(k6 1)]),M s2 t4]) .rt)) [.t s2]
theorem rc97_ok:compF Tryz.prog 97=some rc97:=by kernel_rfl
def rc99:RF:=.f 1 (.sq (.rg [Q s1 (.bx t0),Q s2 (.mv (.c .np))]) (.sq (.rg [Q s3 (.ld true 8 t1),Q s4 (.cl 93 [t3,(k6 2),(k6 0),(k6 2)]),M s2 t4]) .rt)) [.t s2]
theorem rc99_ok:compF Tryz.prog 99=some rc99:=by kernel_rfl
def rc100:RF:=.f 2 (.sq (.rg [Q s2 (.bx t0),Q s4 (.mv (.c .np))]) (.sq (.rg [Q s5 (.fa 1 t2),Q s6 (L t5),Q s7 (.ln false t6),M s8 t1,Q s9 (.cl 101 [t7,t8]),M s4 t9]) .rt)) [.t s4]
theorem rc100_ok:compF Tryz.prog 100=some rc100:=by kernel_rfl
def rc102:RF:=.f 2 (.sq (.rg [Q s2 (.bx t0),Q s4 (.mv (.c .np))]) (.sq (.rg [Q s5 (.ld true 8 t2),M s6 t1,Q s7 (.cl 157 [t5,t6,kT]),M s4 t7]) .rt)) [.t s4]
theorem rc102_ok:compF Tryz.prog 102=some rc102:=by kernel_rfl
def rc105:RF:=.f 1 (.sq (.rg [Q s1 (.bx t0),Q s2 (.mv (.c .np))]) (.sq (.dr [.q (.d s3) .no .ef (.cl 149 []),.q (.d s4) .no .ef (.ml 2 .nf false t3 (.c (.s [99,111]))),.q (.d s5) .no (.ck 0 2) (.ld true 8 t1),.q (.d s6) .no .ef (.cf t4 [t5]),M s2 t6]) .rt)) [.t s2]
theorem rc105_ok:compF Tryz.prog 105=some rc105:=by kernel_rfl
def rc107:RF:=.f 2 (.sq (.rg [Q s2 (.bx t0),Q s4 (.mv (.c .np))]) (.sq (.rg [Q s5 (.ld true 8 t2),M s6 t1,Q s7 (.cl 157 [t5,t6,kF]),M s4 t7]) .rt)) [.t s4]
theorem rc107_ok:compF Tryz.prog 107=some rc107:=by kernel_rfl
def rc110:RF:=.f 1 (.sq (.rg [Q s1 (.bx t0),Q s2 (.mv (.c .np))]) (.sq (.dr [Q s3 (.ld true 8 t1),.q (.d s4) .no .ef (.cl 81 [t3]),.q (.d s5) .no (.ck 0 1) (.ld true 8 t1),.q (.d s6) .no .ef (.cl 160 [t5]),Q s7 (.bs (.cons .np .nil) 1 [(0,1,t6)]),.q (.d s8) .no .ef (.cl 124 [t4,t7]),.q (.d s9) .no .ef (.cl 66 [t8]),M s2 t9]) .rt)) [.t s2]
theorem rc110_ok:compF Tryz.prog 110=some rc110:=by kernel_rfl
def rc111:RF:=.f 1 (.sq (.rg [Q s1 (.bx t0),Q s2 (.mv (.c .np))]) (.sq (.rg [Q s7 (.ld true 8 t1),Q s8 (.cl 75 [t7,(.c .ns)]),M s3 t8]) (.sq (.rg [Q s9 (.cl 149 []),M s4 t9]) (.sq (.sq (.rg [Q s10 (.bd (.cons (.s []) (.cons (.s []) (.cons (.s []) .nil))) [(0,1,(.c (.s [114,102]))),(1,1,(.c (.s [99,111]))),(2,1,(.c (.s [102,114])))]),Q s11 (.mv (k6 0))]) (.bl 0 (.lp (.sq (.rg [Q s12 (.bn .lss t11 (k6 3))]) (.sq (.cd t12 .sk (.ex 0)) (.sq (.bl 1 (.sq (.rg [Q s13 (.ix false 3 1 t10 t11),M s6 t13]) (.rg [M s14 t3,M s15 t4,M s16 t6,Q s17 (.ml 2 .nf false t15 t16),Q s18 (.ld true 8 t1),Q s19 (.cf t17 [t18]),Q s20 (.cl 122 [t14,t19]),M s3 t20]))) (.rg [Q s21 (.bn .add t11 (k6 1)),M s11 t21]))))))) (.sq (.rg [M s22 t3,Q s23 (.cl 66 [t22]),M s2 t23]) .rt))))) [.t s2]
theorem rc111_ok:compF Tryz.prog 111=some rc111:=by kernel_rfl
def rc112:RF:=.f 1 (.sq (.rg [Q s1 (.bx t0),Q s2 (.mv (.c .np))]) (.sq (.dr [Q s3 (.ld true 8 t1),.q (.d s4) .no .ef (.cl 92 [t3]),.q (.d s5) .no (.ck 0 1) (.ld true 8 t1),.q (.d s6) .no .ef (.cl 161 [t5]),.q (.d s7) .no .ef (.cl 96 [t4,t6]),.q (.d s8) .no .ef (.cl 104 [t7]),M s2 t8]) .rt)) [.t s2]
theorem rc112_ok:compF Tryz.prog 112=some rc112:=by kernel_rfl
def rc113:RF:=.f 1 (.sq (.rg [Q s1 (.bx t0),Q s2 (.mv (.c .np))]) (.sq (.rg [Q s3 (.ld true 8 t1),Q s4 (.cl 145 [t3]),Q s5 (.cl 104 [t4]),M s2 t5]) .rt)) [.t s2]
theorem rc113_ok:compF Tryz.prog 113=some rc113:=by kernel_rfl
def rc114:RF:=.f 1 (.sq (.rg [Q s1 (.bx t0),Q s2 (.mv kF)]) (.sq (.rg [Q s3 (.fa 0 t1),Q s4 (.ld true 8 t3),Q s5 (.cl 24 [t4]),Q s6 (.cl 132 [t5]),Q s7 (.nt t6),M s2 t7]) .rt)) [.t s2]
theorem rc114_ok:compF Tryz.prog 114=some rc114:=by kernel_rfl
def rc115:RF:=.f 1 (.sq (.rg [Q s1 (.bx t0),Q s2 (.mv kF)]) (.sq (.rg [Q s5 (.fa 0 t1),Q s6 (.ld true 8 t5),Q s7 (.cl 111 [t6]),M s3 t7]) (.sq (.sq (.rg [Q s8 (.fa 0 t1),Q s9 (.ld true 8 t8),Q s10 (.cl 91 [t9]),M s11 t3,Q s12 (.cl 80 [t10,t11]),Q s13 (.cl 136 [t12])]) (.cd t13 (.sq (.rg [Q s2 (.mv kF)]) .rt) .sk)) (.sq (.rg [Q s14 (.fa 0 t1),Q s15 (.ld true 8 t14),Q s16 (.cl 110 [t15]),M s4 t16]) (.sq (.rg [M s17 t4,Q s18 (.cl 136 [t17]),Q s19 (.nt t18),M s20 t19,om1 s21 s20 t4,om1 s22 s20 t3,oq1 s23 s20 (.cl 80 [t21,t22]),oq1 s24 s20 (.cl 136 [t23]),oq1 s25 s20 (.nt t24),Q s26 (.pick t20 t25 kF),M s2 t26]) .rt))))) [.t s2]
theorem rc115_ok:compF Tryz.prog 115=some rc115:=by kernel_rfl
def rc117:RF:=.f 1 (.sq (.rg [Q s1 (.bx t0),Q s2 (.mv kF)]) (.sq (.rg [Q s3 (.fa 0 t1),Q s4 (.ld true 8 t3),Q s5 (.cl 128 [t4]),M s2 t5]) .rt)) [.t s2]
theorem rc117_ok:compF Tryz.prog 117=some rc117:=by kernel_rfl
def rc119:RF:=.f 1 (.sq (.rg [Q s1 (.bx t0),Q s2 (.mv (.c .np))]) (.sq (.dr [Q s3 (.ld true 8 t1),.q (.d s4) .no .ef (.cl 103 [t3]),.q (.d s5) .no .ef (.cl 163 [t4]),.q (.d s6) .no (.ck 0 2) (.ld true 8 t1),.q (.d s7) .no .ef (.cl 108 [t6]),.q (.d s8) .no .ef (.cl 94 [t5,t7]),M s2 t8]) .rt)) [.t s2]
theorem rc119_ok:compF Tryz.prog 119=some rc119:=by kernel_rfl
def rc124:RF:=.f 2 (.sq (.rg [Q s4 (.mv (.c .np))]) (.sq (.sq (.rg [M s7 t1,Q s8 (.ln false t7),Q s9 (.mv (k6 0))]) (.bl 0 (.lp (.sq (.rg [Q s10 (.bn .lss t9 t8)]) (.sq (.cd t10 .sk (.ex 0)) (.sq (.bl 1 (.sq (.rg [Q s11 (.ia 1 t7 t9),Q s12 (L t11),M s6 t12]) (.rg [M s13 t0,M s14 t6,Q s15 (.cl 122 [t13,t14]),M s0 t15]))) (.rg [Q s16 (.bn .add t9 (k6 1)),M s9 t16]))))))) (.sq (.rg [M s17 t0,M s4 t17]) .rt))) [.t s4]
theorem rc124_ok:compF Tryz.prog 124=some rc124:=by kernel_rfl
def rc138:RF:=.f 1 (.sq (.rg [Q s2 (.mv (.c .np))]) (.sq (.rg [M s3 t0,Q s4 (.cl 66 [t3]),Q s5 (.cl 174 [t4]),M s2 t5]) .rt)) [.t s2]
theorem rc138_ok:compF Tryz.prog 138=some rc138:=by kernel_rfl
def rc144:RF:=.f 1 (.sq (.rg [Q s2 (.mv (.c .np))]) (.sq (.rg [M s3 t0,Q s4 (.cl 104 [t3]),Q s5 (.cl 178 [t4]),M s2 t5]) .rt)) [.t s2]
theorem rc144_ok:compF Tryz.prog 144=some rc144:=by kernel_rfl
def rc145:RF:=.f 1 (.sq (.rg [Q s1 (.bx t0),Q s2 (.mv (.c .np))]) (.sq (.dr [Q s3 (.ld true 8 t1),.q (.d s4) .no .ef (.cl 103 [t3]),.q (.d s5) .no (.ck 0 1) (.ld true 8 t1),.q (.d s6) .no .ef (.cl 108 [t5]),.q (.d s7) .no .ef (.cl 96 [t4,t6]),.q (.d s8) .no (.ck 0 3) (.ld true 8 t1),.q (.d s9) .no .ef (.cl 119 [t8]),.q (.d s10) .no .ef (.cl 96 [t7,t9]),M s2 t10]) .rt)) [.t s2]
theorem rc145_ok:compF Tryz.prog 145=some rc145:=by kernel_rfl
def rc149:RF:=.f 0 (.sq (.rg [Q s0 (.mv (.c (.fn 33554432 (.cons (.b true) .nil))))]) (.sq (.rg [Q s1 (.mk),Z (.mi 2 t1 (.c (.s [114,102])) (.c (.fn 179 .nil))),Z (.mi 2 t1 (.c (.s [99,111])) (.c (.fn 180 .nil))),Z (.mi 2 t1 (.c (.s [102,114])) (.c (.fn 181 .nil))),M s2 t1,M s0 t2]) .rt)) [.t s0]
theorem rc149_ok:compF Tryz.prog 149=some rc149:=by kernel_rfl
def rc160:RF:=.f 1 (.sq (.rg [Q s1 (.bx t0),Q s2 (.mv (.c .np))]) (.sq (.rg [Q s7 (.ld true 8 t1),Q s8 (.cl 63 [t7]),M s3 t8]) (.sq (.dr [Q s9 (.ld true 8 t1),M s10 t3,.q (.d s11) .no .ef (.cl 62 [t9,t10]),.q (.d s12) .no (.ck 0 1) (.ld true 8 t1),.q (.d s13) .no .ef (.cl 91 [t12]),.q (.d s14) .no .ef (.cl 174 [t13]),.q (.d s15) .no (.ck 0 3) (.ld true 8 t1),M s16 t3,.q (.d s17) .no .ef (.cl 69 [t15,t16]),Q s18 (.bs (.cons .np .nil) 1 [(0,1,t17)]),.q (.d s19) .no .ef (.cl 64 [t14,t18]),Q s20 (.bs (.cons .np .nil) 1 [(0,1,t19)]),.q (.d s21) .no .ef (.cl 124 [t11,t20]),M s4 t21]) (.sq (.rg [Q s22 (.ld true 8 t1),Q s23 (.bs (.cons (i6 0) .nil) 1 [(0,1,(k6 1))]),Q s24 (.cl 65 [t22,(k6 1),t23]),M s5 t24]) (.sq (.rg [Q s25 (.ld true 8 t1),Q s26 (.bs (.cons (i6 0) (.cons (i6 0) (.cons (i6 0) .nil))) 3 [(0,1,(k6 1)),(1,1,(k6 3)),(2,1,(k6 4))]),Q s27 (.cl 65 [t25,(k6 3),t26]),M s6 t27]) (.sq (.dr [Q s28 (.ld true 8 t1),.q (.d s29) .no .ef (.cl 184 [t28]),M s30 t4,M s31 t5,.q (.d s32) .no (.ck 0 1) (.ld true 8 t1),.q (.d s33) .no .ef (.cl 81 [t32]),M s34 t6,Q s35 (.bs (.cons .np .nil) 1 [(0,1,t34)]),.q (.d s36) .no .ef (.cl 64 [t33,t35]),Q s37 (.bs (.cons .np .nil) 1 [(0,1,t36)]),.q (.d s38) .no .ef (.cl 124 [t31,t37]),Q s39 (.bs (.cons .np (.cons .np .nil)) 2 [(0,1,t30),(1,1,t38)]),.q (.d s40) .no .ef (.cl 64 [t29,t39]),M s2 t40]) .rt)))))) [.t s2]
theorem rc160_ok:compF Tryz.prog 160=some rc160:=by kernel_rfl
def rc161:RF:=.f 1 (.sq (.rg [Q s1 (.bx t0),Q s2 (.mv (.c .np))]) (.sq (.rg [Q s5 (.ld true 8 t1),Q s6 (.cl 103 [t5]),M s3 t6]) (.sq (.dr [Q s7 (.ld true 8 t1),M s8 t3,.q (.d s9) .no .ef (.cl 102 [t7,t8]),.q (.d s10) .no (.ck 0 1) (.ld true 8 t1),.q (.d s11) .no .ef (.cl 98 [t10]),.q (.d s12) .no .ef (.cl 178 [t11]),.q (.d s13) .no (.ck 0 3) (.ld true 8 t1),M s14 t3,.q (.d s15) .no .ef (.cl 107 [t13,t14]),.q (.d s16) .no .ef (.cl 94 [t12,t15]),.q (.d s17) .no .ef (.cl 96 [t9,t16]),M s4 t17]) (.sq (.dr [Q s18 (.ld true 8 t1),.q (.d s19) .no .ef (.cl 185 [t18]),M s20 t4,.q (.d s21) .no .ef (.cl 94 [t19,t20]),.q (.d s22) .no (.ck 0 2) (.ld true 8 t1),.q (.d s23) .no .ef (.cl 97 [t22]),.q (.d s24) .no (.ck 0 3) (.ld true 8 t1),.q (.d s25) .no .ef (.cl 92 [t24]),.q (.d s26) .no (.ck 0 4) (.ld true 8 t1),.q (.d s27) .no .ef (.cl 186 [t26]),.q (.d s28) .no .ef (.cl 94 [t25,t27]),.q (.d s29) .no .ef (.cl 96 [t23,t28]),.q (.d s30) .no .ef (.cl 94 [t21,t29]),M s2 t30]) .rt)))) [.t s2]
theorem rc161_ok:compF Tryz.prog 161=some rc161:=by kernel_rfl
def rc181:RF:=.f 1 (.sq (.rg [Q s1 (.bx t0),Q s2 (.mv (.c .np))]) (.sq (.dr [Q s3 (.ld true 8 t1),.q (.d s4) .no .ef (.cl 179 [t3]),.q (.d s5) .no .ef (.cl 182 [t4]),.q (.d s6) .no (.ck 0 2) (.ld true 8 t1),.q (.d s7) .no .ef (.cl 180 [t6]),.q (.d s8) .no .ef (.cl 80 [t5,t7]),M s2 t8]) .rt)) [.t s2]
theorem rc181_ok:compF Tryz.prog 181=some rc181:=by kernel_rfl
def rc184:RF:=.f 1 (.sq (.rg [Q s1 (.bx t0),Q s2 (.mv (.c .np))]) (.sq (.rg [Q s5 (.ld true 8 t1),Q s6 (.bs (.cons (i6 0) .nil) 1 [(0,1,(k6 2))]),Q s7 (.cl 65 [t5,(k6 2),t6]),M s3 t7]) (.sq (.rg [Q s8 (.ld true 8 t1),Q s9 (.bs (.cons (i6 0) (.cons (i6 0) (.cons (i6 0) .nil))) 3 [(0,1,(k6 2)),(1,1,(k6 3)),(2,1,(k6 4))]),Q s10 (.cl 65 [t8,(k6 3),t9]),M s4 t10]) (.sq (.dr [M s11 t3,M s12 t4,Q s13 (.ld true 8 t1),.q (.d s14) .no .ef (.cl 81 [t13]),Q s15 (.bs (.cons .np .nil) 1 [(0,1,t14)]),.q (.d s16) .no .ef (.cl 64 [t12,t15]),Q s17 (.bs (.cons .np .nil) 1 [(0,1,t16)]),.q (.d s18) .no .ef (.cl 124 [t11,t17]),.q (.d s19) .no (.ck 0 3) (.ld true 8 t1),.q (.d s20) .no .ef (.cl 199 [t19]),Q s21 (.bs (.cons .np .nil) 1 [(0,1,t20)]),.q (.d s22) .no .ef (.cl 64 [t18,t21]),M s2 t22]) .rt)))) [.t s2]
theorem rc184_ok:compF Tryz.prog 184=some rc184:=by kernel_rfl
def rc185:RF:=.f 1 (.sq (.rg [Q s1 (.bx t0),Q s2 (.mv (.c .np))]) (.sq (.dr [Q s3 (.ld true 8 t1),.q (.d s4) .no .ef (.cl 95 [t3]),.q (.d s5) .no (.ck 0 1) (.ld true 8 t1),.q (.d s6) .no .ef (.cl 200 [t5]),.q (.d s7) .no (.ck 0 2) (.ld true 8 t1),.q (.d s8) .no .ef (.cl 92 [t7]),.q (.d s9) .no .ef (.cl 94 [t6,t8]),.q (.d s10) .no .ef (.cl 96 [t4,t9]),.q (.d s11) .no (.ck 0 5) (.ld true 8 t1),.q (.d s12) .no .ef (.cl 201 [t11]),.q (.d s13) .no .ef (.cl 94 [t10,t12]),M s2 t13]) .rt)) [.t s2]
theorem rc185_ok:compF Tryz.prog 185=some rc185:=by kernel_rfl
def rc186:RF:=.f 1 (.sq (.rg [Q s1 (.bx t0),Q s2 (.mv (.c .np))]) (.sq (.dr [Q s3 (.ld true 8 t1),.q (.d s4) .no .ef (.cl 93 [t3,(k6 3),(k6 1),(k6 1)]),.q (.d s5) .no (.ck 0 1) (.ld true 8 t1),.q (.d s6) .no .ef (.cl 93 [t5,(k6 3),(k6 3),(k6 4)]),.q (.d s7) .no .ef (.cl 96 [t4,t6]),M s2 t7]) .rt)) [.t s2]
theorem rc186_ok:compF Tryz.prog 186=some rc186:=by kernel_rfl
def rc199:RF:=.f 1 (.sq (.rg [Q s1 (.bx t0),Q s2 (.mv (.c .np))]) (.sq (.dr [Q s7 (.ld true 8 t1),.q (.d s8) .no .ef (.cl 65 [t7,(k6 2),(.c .ns)]),.q (.d s9) .no (.ck 0 1) (.ld true 8 t1),.q (.d s10) .no .ef (.cl 91 [t9]),.q (.d s11) .no (.ck 0 2) (.ld true 8 t1),Q s12 (.fa 4 t1),.q (.d s13) .no (.ck 0 2) (L t12),.q (.d s14) .no .ef (.cl 75 [t11,t13]),M s3 t8,M s4 t10,M s5 t14]) (.sq (.dr [M s15 t4,.q (.d s16) .no .ef (.cl 174 [t15]),.q (.d s17) .no (.ck 0 1) (.ld true 8 t1),.q (.d s18) .no .ef (.cl 63 [t17]),M s19 t5,Q s20 (.bs (.cons .np (.cons .np .nil)) 2 [(0,1,t18),(1,1,t19)]),.q (.d s21) .no .ef (.cl 64 [t16,t20]),.q (.d s22) .no .ef (.cl 138 [t21]),M s6 t22]) (.sq (.rg [M s23 t3,M s24 t4,M s25 t3,Q s26 (.bs (.cons .np (.cons .np .nil)) 2 [(0,1,t24),(1,1,t25)]),Q s27 (.cl 64 [t23,t26]),M s28 t3,M s29 t6,Q s30 (.bs (.cons .np .nil) 1 [(0,1,t29)]),Q s31 (.cl 64 [t28,t30]),Q s32 (.bs (.cons .np .nil) 1 [(0,1,t31)]),Q s33 (.cl 124 [t27,t32]),M s2 t33]) .rt)))) [.t s2]
theorem rc199_ok:compF Tryz.prog 199=some rc199:=by kernel_rfl
def rc200:RF:=.f 1 (.sq (.rg [Q s1 (.bx t0),Q s2 (.mv (.c .np))]) (.sq (.rg [Q s3 (.ld true 8 t1),Q s4 (.cl 93 [t3,(k6 3),(k6 2),(k6 4)]),M s2 t4]) .rt)) [.t s2]
theorem rc200_ok:compF Tryz.prog 200=some rc200:=by kernel_rfl
def rc201:RF:=.f 1 (.sq (.rg [Q s1 (.bx t0),Q s2 (.mv (.c .np))]) (.sq (.dr [Q s6 (.ld true 8 t1),.q (.d s7) .no .ef (.cl 99 [t6]),.q (.d s8) .no (.ck 0 1) (.ld true 8 t1),.q (.d s9) .no .ef (.cl 98 [t8]),M s3 t7,M s4 t9]) (.sq (.dr [M s10 t4,.q (.d s11) .no .ef (.cl 178 [t10]),.q (.d s12) .no (.ck 0 1) (.ld true 8 t1),.q (.d s13) .no .ef (.cl 103 [t12]),.q (.d s14) .no .ef (.cl 94 [t11,t13]),.q (.d s15) .no (.ck 0 3) (.ld true 8 t1),Q s16 (.fa 4 t1),.q (.d s17) .no (.ck 0 3) (L t16),.q (.d s18) .no .ef (.cl 100 [t15,t17]),.q (.d s19) .no .ef (.cl 94 [t14,t18]),M s5 t19]) (.sq (.rg [M s20 t3,M s21 t4,Q s22 (.cl 94 [t20,t21]),M s23 t3,Q s24 (.cl 94 [t22,t23]),M s25 t3,M s26 t5,Q s27 (.cl 144 [t26]),Q s28 (.cl 94 [t25,t27]),Q s29 (.cl 96 [t24,t28]),M s2 t29]) .rt)))) [.t s2]
theorem rc201_ok:compF Tryz.prog 201=some rc201:=by kernel_rfl
def fsL:List (Nat × RF):=[(11,rc11),(12,rc12),(21,rc21),(24,rc24),(25,rc25),(27,rc27),(28,rc28),(30,rc30),(31,rc31),(32,rc32),(33,rc33),(34,rc34),(35,rc35),(36,rc36),(38,rc38),(39,rc39),(40,rc40),(41,rc41),(43,rc43),(44,rc44),(59,rc59),(60,rc60),(61,rc61),(63,rc63),(64,rc64),(68,rc68),(69,rc69),(70,rc70),(71,rc71),(72,rc72),(73,rc73),(74,rc74),(75,rc75),(76,rc76),(77,rc77),(79,rc79),(86,rc86),(87,rc87),(88,rc88),(89,rc89),(90,rc90),(95,rc95),(97,rc97),(99,rc99),(100,rc100),(102,rc102),(105,rc105),(107,rc107),(110,rc110),(111,rc111),(112,rc112),(113,rc113),(114,rc114),(115,rc115),(117,rc117),(119,rc119),(124,rc124),(138,rc138),(144,rc144),(145,rc145),(149,rc149),(160,rc160),(161,rc161),(181,rc181),(184,rc184),(185,rc185),(186,rc186),(199,rc199),(200,rc200),(201,rc201)]
theorem fsL_ok:∀ e ∈ fsL,compF Tryz.prog e.1=some e.2:=by
 unfold fsL
 refine List.forall_mem_cons.2 ⟨rc11_ok,?_⟩
 refine List.forall_mem_cons.2 ⟨rc12_ok,?_⟩
 refine List.forall_mem_cons.2 ⟨rc21_ok,?_⟩
 refine List.forall_mem_cons.2 ⟨rc24_ok,?_⟩
 refine List.forall_mem_cons.2 ⟨rc25_ok,?_⟩
 refine List.forall_mem_cons.2 ⟨rc27_ok,?_⟩
 refine List.forall_mem_cons.2 ⟨rc28_ok,?_⟩
 refine List.forall_mem_cons.2 ⟨rc30_ok,?_⟩
 refine List.forall_mem_cons.2 ⟨rc31_ok,?_⟩
 refine List.forall_mem_cons.2 ⟨rc32_ok,?_⟩
 refine List.forall_mem_cons.2 ⟨rc33_ok,?_⟩
 refine List.forall_mem_cons.2 ⟨rc34_ok,?_⟩
 refine List.forall_mem_cons.2 ⟨rc35_ok,?_⟩
 refine List.forall_mem_cons.2 ⟨rc36_ok,?_⟩
 refine List.forall_mem_cons.2 ⟨rc38_ok,?_⟩
 refine List.forall_mem_cons.2 ⟨rc39_ok,?_⟩
 refine List.forall_mem_cons.2 ⟨rc40_ok,?_⟩
 refine List.forall_mem_cons.2 ⟨rc41_ok,?_⟩
 refine List.forall_mem_cons.2 ⟨rc43_ok,?_⟩
 refine List.forall_mem_cons.2 ⟨rc44_ok,?_⟩
 refine List.forall_mem_cons.2 ⟨rc59_ok,?_⟩
 refine List.forall_mem_cons.2 ⟨rc60_ok,?_⟩
 refine List.forall_mem_cons.2 ⟨rc61_ok,?_⟩
 refine List.forall_mem_cons.2 ⟨rc63_ok,?_⟩
 refine List.forall_mem_cons.2 ⟨rc64_ok,?_⟩
 refine List.forall_mem_cons.2 ⟨rc68_ok,?_⟩
 refine List.forall_mem_cons.2 ⟨rc69_ok,?_⟩
 refine List.forall_mem_cons.2 ⟨rc70_ok,?_⟩
 refine List.forall_mem_cons.2 ⟨rc71_ok,?_⟩
 refine List.forall_mem_cons.2 ⟨rc72_ok,?_⟩
 refine List.forall_mem_cons.2 ⟨rc73_ok,?_⟩
 refine List.forall_mem_cons.2 ⟨rc74_ok,?_⟩
 refine List.forall_mem_cons.2 ⟨rc75_ok,?_⟩
 refine List.forall_mem_cons.2 ⟨rc76_ok,?_⟩
 refine List.forall_mem_cons.2 ⟨rc77_ok,?_⟩
 refine List.forall_mem_cons.2 ⟨rc79_ok,?_⟩
 refine List.forall_mem_cons.2 ⟨rc86_ok,?_⟩
 refine List.forall_mem_cons.2 ⟨rc87_ok,?_⟩
 refine List.forall_mem_cons.2 ⟨rc88_ok,?_⟩
 refine List.forall_mem_cons.2 ⟨rc89_ok,?_⟩
 refine List.forall_mem_cons.2 ⟨rc90_ok,?_⟩
 refine List.forall_mem_cons.2 ⟨rc95_ok,?_⟩
 refine List.forall_mem_cons.2 ⟨rc97_ok,?_⟩
 refine List.forall_mem_cons.2 ⟨rc99_ok,?_⟩
 refine List.forall_mem_cons.2 ⟨rc100_ok,?_⟩
 refine List.forall_mem_cons.2 ⟨rc102_ok,?_⟩
 refine List.forall_mem_cons.2 ⟨rc105_ok,?_⟩
 refine List.forall_mem_cons.2 ⟨rc107_ok,?_⟩
 refine List.forall_mem_cons.2 ⟨rc110_ok,?_⟩
 refine List.forall_mem_cons.2 ⟨rc111_ok,?_⟩
 refine List.forall_mem_cons.2 ⟨rc112_ok,?_⟩
 refine List.forall_mem_cons.2 ⟨rc113_ok,?_⟩
 refine List.forall_mem_cons.2 ⟨rc114_ok,?_⟩
 refine List.forall_mem_cons.2 ⟨rc115_ok,?_⟩
 refine List.forall_mem_cons.2 ⟨rc117_ok,?_⟩
 refine List.forall_mem_cons.2 ⟨rc119_ok,?_⟩
 refine List.forall_mem_cons.2 ⟨rc124_ok,?_⟩
 refine List.forall_mem_cons.2 ⟨rc138_ok,?_⟩
 refine List.forall_mem_cons.2 ⟨rc144_ok,?_⟩
 refine List.forall_mem_cons.2 ⟨rc145_ok,?_⟩
 refine List.forall_mem_cons.2 ⟨rc149_ok,?_⟩
 refine List.forall_mem_cons.2 ⟨rc160_ok,?_⟩
 refine List.forall_mem_cons.2 ⟨rc161_ok,?_⟩
 refine List.forall_mem_cons.2 ⟨rc181_ok,?_⟩
 refine List.forall_mem_cons.2 ⟨rc184_ok,?_⟩
 refine List.forall_mem_cons.2 ⟨rc185_ok,?_⟩
 refine List.forall_mem_cons.2 ⟨rc186_ok,?_⟩
 refine List.forall_mem_cons.2 ⟨rc199_ok,?_⟩
 refine List.forall_mem_cons.2 ⟨rc200_ok,?_⟩
 refine List.forall_mem_cons.2 ⟨rc201_ok,?_⟩
 exact fun _ h=>(by cases h)
end Go.Proofs.YthcnhbclagegeaaGreatDoor.txtC
namespace Go.Proofs.YthcnhbclagegeaaGreatDoor.txtD
open Go.Rn
def s0:Pa:=.z
def s1:Pa:=(.o .z)
def s2:Pa:=(.i .z)
def s3:Pa:=(.o (.o .z))
def s4:Pa:=(.i (.o .z))
def s5:Pa:=(.o (.i .z))
def s6:Pa:=(.i (.i .z))
def s7:Pa:=(.o (.o (.o .z)))
def s8:Pa:=(.i (.o (.o .z)))
def s9:Pa:=(.o (.i (.o .z)))
def s10:Pa:=(.i (.i (.o .z)))
def s11:Pa:=(.o (.o (.i .z)))
def t0:RO:=.t s0
def t1:RO:=.t s1
def t2:RO:=.t s2
def t3:RO:=.t s3
def t4:RO:=.t s4
def t5:RO:=.t s5
def t6:RO:=.t s6
def t7:RO:=.t s7
def t8:RO:=.t s8
def t9:RO:=.t s9
def t10:RO:=.t s10
def t11:RO:=.t s11
abbrev Q (d:Pa) (o:RP):RQ:=.q (.d d) .no .nm o
abbrev L (x:RO):RP:=.ld false 1 x
abbrev Z (o:RP):RQ:=.q .no .no .nm o
abbrev oq1 (d g:Pa) (o:RP):RQ:=.q (.d d) (.g g true) .nm o
abbrev M (d:Pa) (x:RO):RQ:=.q (.d d) .no .nm (.mv x)
abbrev om1 (d g:Pa) (x:RO):RQ:=.q (.d d) (.g g true) .nm (.mv x)
abbrev i6 (n:Nat):RV:=.i .i64 (.ofNat n)
abbrev k6 (n:Nat):RO:=.c (.i .i64 (.ofNat n))
abbrev kT:RO:=.c (.b true)
abbrev kF:RO:=.c (.b false)
def rc69:RF:=.f 2 (.sq (.rg [Q s2 (.bx t0),Q s4 (.mv (.c .np))]) (.sq (.rg [M s5 t1,Q s6 (.ld true 8 t2),M s7 t1,Q s8 (.cl 62 [t6,t7]),Q s9 (.cl 123 [t5,t8]),M s4 t9]) .rt)) [.t s4]
theorem rc69_ok:compF Tryz.prog 69=some rc69:=by kernel_rfl
def rc105:RF:=.f 1 (.sq (.rg [Q s1 (.bx t0),Q s2 (.mv (.c .np))]) (.sq (.dr [.q (.d s3) .no .ef (.cl 149 []),.q (.d s4) .no .ef (.ml 2 .nf false t3 (.c (.s [99,111]))),.q (.d s5) .no (.ck 0 2) (.ld true 8 t1),.q (.d s6) .no .ef (.cf t4 [t5]),M s2 t6]) .rt)) [.t s2]
theorem rc105_ok:compF Tryz.prog 105=some rc105:=by kernel_rfl
def rc119:RF:=.f 1 (.sq (.rg [Q s1 (.bx t0),Q s2 (.mv (.c .np))]) (.sq (.dr [Q s3 (.ld true 8 t1),.q (.d s4) .no .ef (.cl 103 [t3]),.q (.d s5) .no .ef (.cl 163 [t4]),.q (.d s6) .no (.ck 0 2) (.ld true 8 t1),.q (.d s7) .no .ef (.cl 108 [t6]),.q (.d s8) .no .ef (.cl 94 [t5,t7]),M s2 t8]) .rt)) [.t s2]
theorem rc119_ok:compF Tryz.prog 119=some rc119:=by kernel_rfl
def rc131:RF:=.f 1 (.sq (.rg [Q s1 (.bx t0),Q s2 (.mv (.c .np))]) (.sq (.dr [.q (.d s3) .no .ef (.cl 149 []),.q (.d s4) .no .ef (.ml 2 .nf false t3 (.c (.s [102,114]))),.q (.d s5) .no (.ck 0 2) (.ld true 8 t1),.q (.d s6) .no .ef (.cf t4 [t5]),M s2 t6]) .rt)) [.t s2]
theorem rc131_ok:compF Tryz.prog 131=some rc131:=by kernel_rfl
def rc149:RF:=.f 0 (.sq (.rg [Q s0 (.mv (.c (.fn 33554432 (.cons (.b true) .nil))))]) (.sq (.rg [Q s1 (.mk),Z (.mi 2 t1 (.c (.s [114,102])) (.c (.fn 179 .nil))),Z (.mi 2 t1 (.c (.s [99,111])) (.c (.fn 180 .nil))),Z (.mi 2 t1 (.c (.s [102,114])) (.c (.fn 181 .nil))),M s2 t1,M s0 t2]) .rt)) [.t s0]
theorem rc149_ok:compF Tryz.prog 149=some rc149:=by kernel_rfl
def rc162:RF:=.f 2 (.sq (.rg [Q s2 (.bx t0),Q s4 (.mv (.c .np))]) (.sq (.dr [Q s5 (.fa 0 t2),.q (.d s6) .no (.ck 0 1) (.ld true 8 t5),M s7 t1,Q s8 (.fa 0 t2),Q s9 (.ld true 8 t8),.q (.d s10) .no .ef (.cf t7 [t9]),.q (.d s11) .no .ef (.cl 69 [t6,t10]),M s4 t11]) .rt)) [.t s4]
theorem rc162_ok:compF Tryz.prog 162=some rc162:=by kernel_rfl
def rc181:RF:=.f 1 (.sq (.rg [Q s1 (.bx t0),Q s2 (.mv (.c .np))]) (.sq (.dr [Q s3 (.ld true 8 t1),.q (.d s4) .no .ef (.cl 179 [t3]),.q (.d s5) .no .ef (.cl 182 [t4]),.q (.d s6) .no (.ck 0 2) (.ld true 8 t1),.q (.d s7) .no .ef (.cl 180 [t6]),.q (.d s8) .no .ef (.cl 80 [t5,t7]),M s2 t8]) .rt)) [.t s2]
theorem rc181_ok:compF Tryz.prog 181=some rc181:=by kernel_rfl
def fsL:List (Nat × RF):=[(69,rc69),(105,rc105),(119,rc119),(131,rc131),(149,rc149),(162,rc162),(181,rc181)]
theorem fsL_ok:∀ e ∈ fsL,compF Tryz.prog e.1=some e.2:=by
 unfold fsL
 refine List.forall_mem_cons.2 ⟨rc69_ok,?_⟩
 refine List.forall_mem_cons.2 ⟨rc105_ok,?_⟩
 refine List.forall_mem_cons.2 ⟨rc119_ok,?_⟩
 refine List.forall_mem_cons.2 ⟨rc131_ok,?_⟩
 refine List.forall_mem_cons.2 ⟨rc149_ok,?_⟩
 refine List.forall_mem_cons.2 ⟨rc162_ok,?_⟩
 refine List.forall_mem_cons.2 ⟨rc181_ok,?_⟩
 exact fun _ h=>(by cases h)
end Go.Proofs.YthcnhbclagegeaaGreatDoor.txtD
