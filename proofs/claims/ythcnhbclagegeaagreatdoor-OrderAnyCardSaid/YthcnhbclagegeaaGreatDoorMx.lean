/-
  The functions that some laws reach, in the evaluator's own form, and that this is what the program's text becomes. Conditions: none; these are closed facts.
-/
import Derived.Test.YthcnhbclagegeaaGreatDoorRqM
import Derived.Test.YthcnhbclagegeaaGreatDoorProg
namespace Go.Proofs.YthcnhbclagegeaaGreatDoor.txt
open Go.Rn
def s0:Pa:=.z
def s1:Pa:=(.o .z)
def s2:Pa:=(.i .z)
def s3:Pa:=(.o (.o .z))
def s4:Pa:=(.i (.o .z))
def s5:Pa:=(.o (.i .z))
def s6:Pa:=(.i (.i .z))
def s7:Pa:=(.o (.o (.o .z)))
def s8:Pa:=(.i (.o (.o .z)))
def s9:Pa:=(.o (.i (.o .z)))
def s10:Pa:=(.i (.i (.o .z)))
def s11:Pa:=(.o (.o (.i .z)))
def s12:Pa:=(.i (.o (.i .z)))
def s13:Pa:=(.o (.i (.i .z)))
def s14:Pa:=(.i (.i (.i .z)))
def s15:Pa:=(.o (.o (.o (.o .z))))
def s16:Pa:=(.i (.o (.o (.o .z))))
def s17:Pa:=(.o (.i (.o (.o .z))))
def s18:Pa:=(.i (.i (.o (.o .z))))
def s19:Pa:=(.o (.o (.i (.o .z))))
def s20:Pa:=(.i (.o (.i (.o .z))))
def s21:Pa:=(.o (.i (.i (.o .z))))
def s22:Pa:=(.i (.i (.i (.o .z))))
def s23:Pa:=(.o (.o (.o (.i .z))))
def s24:Pa:=(.i (.o (.o (.i .z))))
def s25:Pa:=(.o (.i (.o (.i .z))))
def s26:Pa:=(.i (.i (.o (.i .z))))
def s27:Pa:=(.o (.o (.i (.i .z))))
def s28:Pa:=(.i (.o (.i (.i .z))))
def s29:Pa:=(.o (.i (.i (.i .z))))
def s30:Pa:=(.i (.i (.i (.i .z))))
def s31:Pa:=(.o (.o (.o (.o (.o .z)))))
def s32:Pa:=(.i (.o (.o (.o (.o .z)))))
def s33:Pa:=(.o (.i (.o (.o (.o .z)))))
def s34:Pa:=(.i (.i (.o (.o (.o .z)))))
def s35:Pa:=(.o (.o (.i (.o (.o .z)))))
def s36:Pa:=(.i (.o (.i (.o (.o .z)))))
def s37:Pa:=(.o (.i (.i (.o (.o .z)))))
def s38:Pa:=(.i (.i (.i (.o (.o .z)))))
def s39:Pa:=(.o (.o (.o (.i (.o .z)))))
def s40:Pa:=(.i (.o (.o (.i (.o .z)))))
def s41:Pa:=(.o (.i (.o (.i (.o .z)))))
def s42:Pa:=(.i (.i (.o (.i (.o .z)))))
def s43:Pa:=(.o (.o (.i (.i (.o .z)))))
def s44:Pa:=(.i (.o (.i (.i (.o .z)))))
def s45:Pa:=(.o (.i (.i (.i (.o .z)))))
def s46:Pa:=(.i (.i (.i (.i (.o .z)))))
def s47:Pa:=(.o (.o (.o (.o (.i .z)))))
def s48:Pa:=(.i (.o (.o (.o (.i .z)))))
def s49:Pa:=(.o (.i (.o (.o (.i .z)))))
def s50:Pa:=(.i (.i (.o (.o (.i .z)))))
def s51:Pa:=(.o (.o (.i (.o (.i .z)))))
def s52:Pa:=(.i (.o (.i (.o (.i .z)))))
def s53:Pa:=(.o (.i (.i (.o (.i .z)))))
def s54:Pa:=(.i (.i (.i (.o (.i .z)))))
def s55:Pa:=(.o (.o (.o (.i (.i .z)))))
def s56:Pa:=(.i (.o (.o (.i (.i .z)))))
def s57:Pa:=(.o (.i (.o (.i (.i .z)))))
def s58:Pa:=(.i (.i (.o (.i (.i .z)))))
def s59:Pa:=(.o (.o (.i (.i (.i .z)))))
def s60:Pa:=(.i (.o (.i (.i (.i .z)))))
def s61:Pa:=(.o (.i (.i (.i (.i .z)))))
def s62:Pa:=(.i (.i (.i (.i (.i .z)))))
def s63:Pa:=(.o (.o (.o (.o (.o (.o .z))))))
def t0:RO:=.t s0
def t1:RO:=.t s1
def t2:RO:=.t s2
def t3:RO:=.t s3
def t4:RO:=.t s4
def t5:RO:=.t s5
def t6:RO:=.t s6
def t7:RO:=.t s7
def t8:RO:=.t s8
def t9:RO:=.t s9
def t10:RO:=.t s10
def t11:RO:=.t s11
def t12:RO:=.t s12
def t13:RO:=.t s13
def t14:RO:=.t s14
def t15:RO:=.t s15
def t16:RO:=.t s16
def t17:RO:=.t s17
def t18:RO:=.t s18
def t19:RO:=.t s19
def t20:RO:=.t s20
def t21:RO:=.t s21
def t22:RO:=.t s22
def t23:RO:=.t s23
def t24:RO:=.t s24
def t25:RO:=.t s25
def t26:RO:=.t s26
def t27:RO:=.t s27
def t28:RO:=.t s28
def t29:RO:=.t s29
def t30:RO:=.t s30
def t31:RO:=.t s31
def t32:RO:=.t s32
def t33:RO:=.t s33
def t34:RO:=.t s34
def t35:RO:=.t s35
def t36:RO:=.t s36
def t37:RO:=.t s37
def t38:RO:=.t s38
def t39:RO:=.t s39
def t40:RO:=.t s40
def t41:RO:=.t s41
def t42:RO:=.t s42
def t43:RO:=.t s43
def t44:RO:=.t s44
def t45:RO:=.t s45
def t46:RO:=.t s46
def t47:RO:=.t s47
def t48:RO:=.t s48
def t49:RO:=.t s49
def t50:RO:=.t s50
def t51:RO:=.t s51
def t52:RO:=.t s52
def t53:RO:=.t s53
def t54:RO:=.t s54
def t55:RO:=.t s55
def t56:RO:=.t s56
def t57:RO:=.t s57
def t58:RO:=.t s58
def t59:RO:=.t s59
def t60:RO:=.t s60
def t61:RO:=.t s61
def t62:RO:=.t s62
def t63:RO:=.t s63
abbrev Q (d:Pa) (o:RP):RQ:=.q (.d d) .no .nm o
abbrev L (x:RO):RP:=.ld false 1 x
abbrev Z (o:RP):RQ:=.q .no .no .nm o
abbrev oq1 (d g:Pa) (o:RP):RQ:=.q (.d d) (.g g true) .nm o
abbrev oq2 (d g:Pa) (o:RP):RQ:=.q (.d d) (.g g false) .nm o
abbrev M (d:Pa) (x:RO):RQ:=.q (.d d) .no .nm (.mv x)
abbrev om1 (d g:Pa) (x:RO):RQ:=.q (.d d) (.g g true) .nm (.mv x)
abbrev i6 (n:Nat):RV:=.i .i64 (.ofNat n)
abbrev k6 (n:Nat):RO:=.c (.i .i64 (.ofNat n))
abbrev kT:RO:=.c (.b true)
abbrev kF:RO:=.c (.b false)
def rc8:RF:=.f 0 (.sq (.rg [Q s0 (.mv kF)]) (.sq (.rg [Q s1 (.cl 22 [kT]),Q s2 (.cl 21 [t1]),Q s3 (.cl 23 [t2,(k6 2),(k6 3)]),M s4 t3,oq1 s5 s4 (.cl 22 [kT]),oq1 s6 s4 (.cl 24 [t5]),oq1 s7 s4 (.cl 23 [t6,(k6 2),(k6 3)]),Q s8 (.pick t4 t7 kF),M s9 t8,oq1 s10 s9 (.cl 22 [kF]),oq1 s11 s9 (.cl 24 [t10]),oq1 s12 s9 (.cl 23 [t11,(k6 2),(k6 3)]),oq1 s13 s9 (.nt t12),Q s14 (.pick t9 t13 kF),M s15 t14,oq1 s16 s15 (.cl 22 [kT]),oq1 s17 s15 (.cl 25 [t16]),oq1 s18 s15 (.cl 23 [t17,(k6 2),(k6 3)]),Q s19 (.pick t15 t18 kF),M s0 t19]) .rt)) [.t s0]
theorem rc8_ok:compF Tryz.prog 8=some rc8:=by kernel_rfl
def rc21:RF:=.f 1 (.sq (.rg [Q s1 (.bx t0),Q s2 (.mv (.c .np))]) (.sq (.rg [Q s4 (.ld true 8 t1),Q s5 (.mf 60 [t1]),Q s6 (.mf 61 [t1]),Q s7 (.bs (.cons .nf (.cons .nf .nil)) 2 [(0,1,t5),(1,1,t6)]),Q s8 (.cl 59 [t4,t7]),M s3 t8]) (.sq (.dr [Q s9 (.ld true 8 t1),.q (.d s10) .no .ef (.cl 65 [t9,(k6 1),(.c .ns)]),M s11 t3,.q (.d s12) .no .ef (.cl 66 [t11]),.q (.d s13) .no (.ck 0 2) (.ld true 8 t1),.q (.d s14) .no .ef (.cl 65 [t13,(k6 2),(.c .ns)]),Q s15 (.bs (.cons .np (.cons .np .nil)) 2 [(0,1,t12),(1,1,t14)]),.q (.d s16) .no .ef (.cl 64 [t10,t15]),M s2 t16]) .rt))) [.t s2]
theorem rc21_ok:compF Tryz.prog 21=some rc21:=by kernel_rfl
def rc22:RF:=.f 1 (.sq (.rg [Q s2 (.al (.cons (i6 0) (.cons .ns (.cons .ns (.cons .ns (.cons .ns (.cons .ns (.cons .ns (.cons .ns .nil)))))))))]) (.sq (.rg [Q s4 (.bd (.cons (i6 0) (.cons (i6 0) (.cons (i6 0) (.cons (i6 0) (.cons (i6 0) (.cons (.b false) .nil)))))) [(1,1,(k6 2))]),Q s5 (.bd (.cons (i6 0) (.cons (i6 0) (.cons (i6 0) (.cons (i6 0) (.cons (i6 0) (.cons (.b false) .nil)))))) [(1,1,(k6 2)),(3,1,(k6 1))]),Q s6 (.bd (.cons (i6 0) (.cons (i6 0) (.cons (i6 0) (.cons (i6 0) (.cons (i6 0) (.cons (.b false) .nil)))))) [(0,1,(k6 1)),(1,1,(k6 1))]),Q s7 (.bd (.cons (i6 0) (.cons (i6 0) (.cons (i6 0) (.cons (i6 0) (.cons (i6 0) (.cons (.b false) .nil)))))) [(0,1,(k6 1)),(1,1,(k6 2)),(3,1,(k6 1))]),Q s8 (.bs (.cons (i6 0) (.cons (i6 0) (.cons (i6 0) (.cons (i6 0) (.cons (i6 0) (.cons (.b false) (.cons (i6 0) (.cons (i6 0) (.cons (i6 0) (.cons (i6 0) (.cons (i6 0) (.cons (.b false) (.cons (i6 0) (.cons (i6 0) (.cons (i6 0) (.cons (i6 0) (.cons (i6 0) (.cons (.b false) (.cons (i6 0) (.cons (i6 0) (.cons (i6 0) (.cons (i6 0) (.cons (i6 0) (.cons (.b false) .nil)))))))))))))))))))))))) 4 [(0,6,t4),(6,6,t5),(12,6,t6),(18,6,t7)]),Q s9 (.bs (.cons (i6 0) (.cons (i6 0) (.cons (i6 0) (.cons (i6 0) .nil)))) 4 [(0,1,(.c (.i .i64 (.negSucc 0)))),(1,1,(.c (.i .i64 (.negSucc 0)))),(2,1,(k6 0)),(3,1,(.c (.i .i64 (.negSucc 0))))]),Q s10 (.bs (.cons (i6 0) .nil) 1 [(0,1,(k6 0))]),Q s11 (.bs (.cons (i6 0) (.cons (i6 0) .nil)) 2 [(0,1,(k6 1)),(1,1,(k6 3))]),Q s12 (.bs (.cons .ns (.cons .ns .nil)) 2 [(0,1,t10),(1,1,t11)]),Q s13 (.bd (.cons (i6 0) (.cons .ns (.cons .ns (.cons .ns (.cons .ns (.cons .ns (.cons .ns (.cons .ns .nil)))))))) [(0,1,(k6 2)),(1,1,t8),(2,1,t9),(3,1,t12)]),Q s3 (.al (.cons (i6 0) (.cons .ns (.cons .ns (.cons .ns (.cons .ns (.cons .ns (.cons .ns (.cons .ns .nil))))))))),Z (.st 8 t3 t13)]) (.sq (.sq (.rg [M s14 t0]) (.cd t14 (.rg [Q s15 (.bd (.cons (i6 0) (.cons (i6 0) .nil)) [(0,1,(k6 2)),(1,1,(k6 3))]),Q s16 (.bs (.cons (i6 0) (.cons (i6 0) .nil)) 1 [(0,2,t15)]),Q s17 (.fa 5 t3),Z (.st 1 t17 t16)]) .sk)) (.sq (.rg [Q s18 (.ld true 8 t3),Z (.st 8 t2 t18)]) .rt)))) [.c s2 true 8]
theorem rc22_ok:compF Tryz.prog 22=some rc22:=by kernel_rfl
def rc23:RF:=.f 3 (.sq (.rg [Q s6 (.mv kF)]) (.sq (.rg [M s7 t0,M s8 t1,Q s9 (.cl 67 [t7,t8]),M s10 t9,om1 s11 s10 t0,om1 s12 s10 t2,oq1 s13 s10 (.cl 67 [t11,t12]),Q s14 (.pick t10 t13 kF),M s15 t14,om1 s16 s15 t0,om1 s17 s15 t1,oq1 s18 s15 (.nc t16),oq1 s19 s15 (.fa 1 t18),oq1 s20 s15 (.ip 40 1 t19 t17),oq1 s21 s15 (L t20),om1 s22 s15 t2,oq1 s23 s15 (.bn .shr t21 t22),oq1 s24 s15 (.bn .and t23 (.c (.i .u64 (.ofNat 1)))),oq1 s25 s15 (.bn .eql t24 (.c (.i .u64 (.ofNat 1)))),Q s26 (.pick t15 t25 kF),M s6 t26]) .rt)) [.t s6]
theorem rc23_ok:compF Tryz.prog 23=some rc23:=by kernel_rfl
def rc24:RF:=.f 1 (.sq (.rg [Q s1 (.bx t0),Q s2 (.mv (.c .np))]) (.sq (.rg [Q s3 (.ld true 8 t1),Q s4 (.mf 68 [t1]),Q s5 (.mf 70 [t1]),Q s6 (.mf 71 [t1]),Q s7 (.mf 72 [t1]),Q s8 (.mf 73 [t1]),Q s9 (.bs (.cons .nf (.cons .nf (.cons .nf (.cons .nf (.cons .nf .nil))))) 5 [(0,1,t4),(1,1,t5),(2,1,t6),(3,1,t7),(4,1,t8)]),Q s10 (.cl 59 [t3,t9]),M s2 t10]) .rt)) [.t s2]
theorem rc24_ok:compF Tryz.prog 24=some rc24:=by kernel_rfl
def rc25:RF:=.f 1 (.sq (.rg [Q s1 (.bx t0),Q s2 (.mv (.c .np))]) (.sq (.rg [Q s3 (.ld true 8 t1),Q s4 (.mf 74 [t1]),Q s5 (.mf 76 [t1]),Q s6 (.mf 77 [t1]),Q s7 (.bs (.cons .nf (.cons .nf (.cons .nf .nil))) 3 [(0,1,t4),(1,1,t5),(2,1,t6)]),Q s8 (.cl 59 [t3,t7]),M s2 t8]) .rt)) [.t s2]
theorem rc25_ok:compF Tryz.prog 25=some rc25:=by kernel_rfl
def rc27:RF:=.f 1 (.sq (.rg [Q s1 (.bx t0),Q s2 (.mv (.c .np))]) (.sq (.dr [Q s6 (.ld true 8 t1),.q (.d s7) .no .ef (.cl 81 [t6]),.q (.d s8) .no (.ck 0 1) (.ld true 8 t1),.q (.d s9) .no .ef (.cl 65 [t8,(k6 3),(.c .ns)]),.q (.d s10) .no (.ck 0 2) (.ld true 8 t1),Q s11 (.bs (.cons (i6 0) .nil) 1 [(0,1,(k6 2))]),.q (.d s12) .no .ef (.cl 65 [t10,(k6 2),t11]),Q s3 (.al (.cons .np .nil)),Q s4 (.al (.cons .np .nil)),Q s5 (.al (.cons .np .nil)),.q .no .no .ef (.st 1 t3 t7),.q .no .no .ef (.st 1 t4 t9),.q .no .no .ef (.st 1 t5 t12)]) (.sq (.rg [Q s13 (.ld true 8 t1),Q s14 (.mf 86 [t3,t5]),Q s15 (.mf 87 [t1,t3]),Q s16 (.mf 88 [t3,t4]),Q s17 (.mf 89 [t4,t3]),Q s18 (.mf 90 [t5,t1]),Q s19 (.bs (.cons .nf (.cons .nf (.cons .nf (.cons .nf (.cons .nf .nil))))) 5 [(0,1,t14),(1,1,t15),(2,1,t16),(3,1,t17),(4,1,t18)]),Q s20 (.cl 59 [t13,t19]),M s2 t20]) .rt))) [.t s2]
theorem rc27_ok:compF Tryz.prog 27=some rc27:=by kernel_rfl
def rc31:RF:=.f 1 (.sq (.rg [Q s1 (.bx t0),Q s2 (.mv (.c .np))]) (.sq (.dr [.q (.d s4) .no (.ck 0 1) (.ld true 8 t1),Q s5 (.ld true 8 t1),.q (.d s6) .no .ef (.cl 105 [t5]),.q (.d s7) .no .ef (.cl 69 [t4,t6]),.q (.d s8) .no (.ck 0 3) (.ld true 8 t1),.q (.d s9) .no (.ck 0 2) (.ld true 8 t1),.q (.d s10) .no .ef (.cl 63 [t9]),.q (.d s11) .no .ef (.cl 69 [t8,t10]),.q (.d s12) .no .ef (.cl 80 [t7,t11]),M s3 t12]) (.sq (.rg [M s13 t3,Q s14 (.ld true 8 t1),Q s15 (.cl 81 [t14]),Q s16 (.cl 106 [t13,t15]),M s2 t16]) .rt))) [.t s2]
theorem rc31_ok:compF Tryz.prog 31=some rc31:=by kernel_rfl
def rc33:RF:=.f 1 (.sq (.rg [Q s1 (.bx t0),Q s2 (.mv (.c .np))]) (.sq (.dr [Q s5 (.ld true 8 t1),Q s6 (.bs (.cons (i6 0) .nil) 1 [(0,1,(k6 4))]),.q (.d s7) .no .ef (.cl 65 [t5,(k6 3),t6]),.q (.d s8) .no (.ck 0 1) (.ld true 8 t1),.q (.d s9) .no .ef (.cl 110 [t8]),M s3 t7,M s4 t9]) (.sq (.rg [M s10 t3,M s11 t4,Q s12 (.ld true 8 t1),Q s13 (.cl 111 [t12]),M s14 t4,M s15 t3,Q s16 (.bs (.cons .np (.cons .np (.cons .np (.cons .np .nil)))) 4 [(0,1,t11),(1,1,t13),(2,1,t14),(3,1,t15)]),Q s17 (.cl 64 [t10,t16]),M s2 t17]) .rt))) [.t s2]
theorem rc33_ok:compF Tryz.prog 33=some rc33:=by kernel_rfl
def rc59:RF:=.f 2 (.sq (.rg [Q s2 (.bx t0),Q s4 (.mv (.c .np))]) (.sq (.rg [Q s8 (.ld true 8 t2),Q s9 (.cl 75 [t8,(.c .ns)]),M s5 t9]) (.sq (.sq (.rg [M s10 t1,Q s11 (.ln false t10),Q s12 (.mv (k6 0))]) (.bl 0 (.lp (.sq (.rg [Q s13 (.bn .lss t12 t11)]) (.sq (.cd t13 .sk (.ex 0)) (.sq (.bl 1 (.sq (.rg [Q s14 (.ia 1 t10 t12),Q s15 (L t14),M s7 t15]) (.rg [M s16 t5,M s17 t7,Q s18 (.cf t17 []),Q s19 (.cl 122 [t16,t18]),M s5 t19]))) (.rg [Q s20 (.bn .add t12 (k6 1)),M s12 t20]))))))) (.sq (.rg [M s21 t5,M s4 t21]) .rt)))) [.t s4]
theorem rc59_ok:compF Tryz.prog 59=some rc59:=by kernel_rfl
def rc60:RF:=.f 1 (.sq (.rg [Q s1 (.mv (.c .np))]) (.sq (.rg [Q s2 (.ld true 8 t0),Q s3 (.cl 25 [t2]),M s1 t3]) .rt)) [.t s1]
theorem rc60_ok:compF Tryz.prog 60=some rc60:=by kernel_rfl
def rc61:RF:=.f 1 (.sq (.rg [Q s1 (.mv (.c .np))]) (.sq (.dr [.q (.d s2) .no (.ck 0 1) (.ld true 8 t0),Q s3 (.ld true 8 t0),.q (.d s4) .no .ef (.cl 63 [t3]),.q (.d s5) .no .ef (.cl 62 [t2,t4]),M s1 t5]) .rt)) [.t s1]
theorem rc61_ok:compF Tryz.prog 61=some rc61:=by kernel_rfl
def rc62:RF:=.f 2 (.sq (.rg [Q s2 (.bx t0),Q s4 (.mv (.c .np))]) (.sq (.rg [Q s5 (.ld true 8 t2),M s6 t1,Q s7 (.cl 147 [t5,t6,(.c (.fn 148 .nil))]),M s4 t7]) .rt)) [.t s4]
theorem rc62_ok:compF Tryz.prog 62=some rc62:=by kernel_rfl
def rc63:RF:=.f 1 (.sq (.rg [Q s1 (.bx t0),Q s2 (.mv (.c .np))]) (.sq (.dr [.q (.d s3) .no .ef (.cl 149 []),.q (.d s4) .no .ef (.ml 2 .nf false t3 (.c (.s [114,102]))),.q (.d s5) .no (.ck 0 2) (.ld true 8 t1),.q (.d s6) .no .ef (.cf t4 [t5]),M s2 t6]) .rt)) [.t s2]
theorem rc63_ok:compF Tryz.prog 63=some rc63:=by kernel_rfl
def rc64:RF:=.f 2 (.sq (.rg [Q s4 (.mv (.c .np))]) (.sq (.sq (.rg [M s7 t1,Q s8 (.ln false t7),Q s9 (.mv (k6 0))]) (.bl 0 (.lp (.sq (.rg [Q s10 (.bn .lss t9 t8)]) (.sq (.cd t10 .sk (.ex 0)) (.sq (.bl 1 (.sq (.rg [Q s11 (.ia 1 t7 t9),Q s12 (L t11),M s6 t12]) (.rg [M s13 t0,M s14 t6,Q s15 (.cl 80 [t13,t14]),M s0 t15]))) (.rg [Q s16 (.bn .add t9 (k6 1)),M s9 t16]))))))) (.sq (.rg [M s17 t0,M s4 t17]) .rt))) [.t s4]
theorem rc64_ok:compF Tryz.prog 64=some rc64:=by kernel_rfl
def rc65:RF:=.f 3 (.sq (.rg [Q s3 (.bx t0),Q s4 (.bx t1),Q s5 (.bx t2),Q s6 (.mv (.c .np))]) (.sq (.rg [Q s7 (.ld true 8 t3),Q s8 (.mf 150 [t4,t5]),Q s9 (.cl 78 [t7,t8]),M s6 t9]) .rt)) [.t s6]
theorem rc65_ok:compF Tryz.prog 65=some rc65:=by kernel_rfl
def rc66:RF:=.f 1 (.sq (.rg [Q s2 (.mv (.c .np))]) (.sq (.rg [M s5 t0,M s3 t5]) (.bl 0 (.lp (.bl 1 (.sq (.rg [M s6 t3,M s7 t3,M s8 t3,Q s9 (.cl 80 [t7,t8]),Q s10 (.cl 122 [t6,t9]),M s4 t10]) (.sq (.sq (.dr [M s11 t4,Q s12 (.nc t11),Q s13 (.fa 1 t12),Q s14 (.ld true 40 t13),M s15 t3,Q s16 (.nc t15),Q s17 (.fa 1 t16),Q s18 (.ld true 40 t17),Q s19 (.se [1,1,1,1,1,1,1,1,1,1,1,1,1,1,1,1,1,1,1,1,1,1,1,1,1,1,1,1,1,1,1,1,1,1,1,1,1,1,1,1] false t14 t18)]) (.cd t19 (.sq (.rg [M s20 t4,M s2 t20]) .rt) .sk)) (.rg [M s21 t4,M s3 t21])))))))) [.t s2]
theorem rc66_ok:compF Tryz.prog 66=some rc66:=by kernel_rfl
def rc67:RF:=.f 2 (.sq (.rg [Q s4 (.mv kF)]) (.sq (.rg [M s5 t1,Q s6 (.bn .leq (k6 0) t5),M s7 t6,om1 s8 s7 t1,om1 s9 s7 t0,oq1 s10 s7 (.nc t9),oq1 s11 s7 (.fa 0 t10),oq1 s12 s7 (L t11),oq1 s13 s7 (.bn .lss t8 t12),Q s14 (.pick t7 t13 kF),M s4 t14]) .rt)) [.t s4]
theorem rc67_ok:compF Tryz.prog 67=some rc67:=by kernel_rfl
def rc68:RF:=.f 1 (.sq (.rg [Q s1 (.mv (.c .np))]) (.sq (.dr [.q (.d s2) .no (.ck 0 1) (.ld true 8 t0),Q s3 (.ld true 8 t0),.q (.d s4) .no .ef (.cl 63 [t3]),.q (.d s5) .no .ef (.cl 69 [t2,t4]),M s1 t5]) .rt)) [.t s1]
theorem rc68_ok:compF Tryz.prog 68=some rc68:=by kernel_rfl
def rc69:RF:=.f 2 (.sq (.rg [Q s2 (.bx t0),Q s4 (.mv (.c .np))]) (.sq (.rg [M s5 t1,Q s6 (.ld true 8 t2),M s7 t1,Q s8 (.cl 62 [t6,t7]),Q s9 (.cl 123 [t5,t8]),M s4 t9]) .rt)) [.t s4]
theorem rc69_ok:compF Tryz.prog 69=some rc69:=by kernel_rfl
def rc70:RF:=.f 1 (.sq (.rg [Q s1 (.mv (.c .np))]) (.sq (.rg [Q s2 (.ld true 8 t0),Q s3 (.cl 27 [t2]),M s1 t3]) .rt)) [.t s1]
theorem rc70_ok:compF Tryz.prog 70=some rc70:=by kernel_rfl
def rc71:RF:=.f 1 (.sq (.rg [Q s1 (.mv (.c .np))]) (.sq (.rg [Q s2 (.ld true 8 t0),Q s3 (.cl 21 [t2]),M s1 t3]) .rt)) [.t s1]
theorem rc71_ok:compF Tryz.prog 71=some rc71:=by kernel_rfl
def rc72:RF:=.f 1 (.sq (.rg [Q s1 (.mv (.c .np))]) (.sq (.rg [Q s2 (.ld true 8 t0),Q s3 (.cl 31 [t2]),M s1 t3]) .rt)) [.t s1]
theorem rc72_ok:compF Tryz.prog 72=some rc72:=by kernel_rfl
def rc73:RF:=.f 1 (.sq (.rg [Q s1 (.mv (.c .np))]) (.sq (.rg [Q s2 (.ld true 8 t0),Q s3 (.cl 33 [t2]),M s1 t3]) .rt)) [.t s1]
theorem rc73_ok:compF Tryz.prog 73=some rc73:=by kernel_rfl
def rc74:RF:=.f 1 (.sq (.rg [Q s1 (.mv (.c .np))]) (.sq (.rg [Q s2 (.ld true 8 t0),Q s3 (.fa 5 t0),Q s4 (L t3),Q s5 (.cl 75 [t2,t4]),M s1 t5]) .rt)) [.t s1]
theorem rc74_ok:compF Tryz.prog 74=some rc74:=by kernel_rfl
def rc75:RF:=.f 2 (.sq (.rg [Q s2 (.bx t0),Q s4 (.mv (.c .np))]) (.sq (.rg [Q s5 (.fa 1 t2),Q s6 (L t5),Q s7 (.ln false t6),M s8 t1,Q s9 (.cl 152 [t7,t8]),M s4 t9]) .rt)) [.t s4]
theorem rc75_ok:compF Tryz.prog 75=some rc75:=by kernel_rfl
def rc76:RF:=.f 1 (.sq (.rg [Q s1 (.mv (.c .np))]) (.sq (.rg [Q s2 (.ld true 8 t0),Q s3 (.fa 6 t0),Q s4 (L t3),Q s5 (.cl 75 [t2,t4]),M s1 t5]) .rt)) [.t s1]
theorem rc76_ok:compF Tryz.prog 76=some rc76:=by kernel_rfl
def rc77:RF:=.f 1 (.sq (.rg [Q s1 (.mv (.c .np))]) (.sq (.rg [Q s3 (.ld true 8 t0),Q s4 (.cl 78 [t3,(.c (.fn 79 .nil))]),M s2 t4]) (.sq (.rg [M s5 t2,Q s6 (.ld true 8 t0),Q s7 (.cl 81 [t6]),Q s8 (.cl 80 [t5,t7]),M s1 t8]) .rt))) [.t s1]
theorem rc77_ok:compF Tryz.prog 77=some rc77:=by kernel_rfl
def rc78:RF:=.f 2 (.sq (.rg [Q s2 (.bx t0),Q s4 (.mv (.c .np))]) (.sq (.rg [Q s8 (.fa 1 t2),Q s9 (L t8),Q s10 (.fa 1 t2),Q s11 (L t10),Q s12 (.ln false t11),Q s13 (.mm false t12 (k6 40)),Q s14 (.sc 6 t9 none (some t13) none),M s15 t1,Q s16 (.bd (.cons .ns (.cons .nf .nil)) [(0,1,t14),(1,1,t15)]),Q s5 (.al (.cons .ns (.cons .nf .nil))),Z (.st 2 t5 t16)]) (.sq (.rg [Q s6 (.mv (.c .ns))]) (.sq (.sq (.rg [Q s17 (.fa 0 t5),Q s18 (L t17),Q s19 (.ln false t18),Q s20 (.mv (k6 0))]) (.bl 0 (.lp (.sq (.rg [Q s21 (.bn .lss t20 t19)]) (.sq (.cd t21 .sk (.ex 0)) (.sq (.bl 1 (.sq (.rg [M s22 t20,M s7 t22]) (.sq (.rg [Q s23 (.ld true 2 t5),M s24 t7,Q s25 (.cl 153 [t23,t24])]) (.cd t25 (.rg [M s26 t6,M s27 t7,M s28 t7,Q s29 (.bd (.cons (i6 0) (.cons (i6 0) .nil)) [(0,1,t27),(1,1,t28)]),Q s30 (.bs (.cons (i6 0) (.cons (i6 0) .nil)) 1 [(0,2,t29)]),Q s31 (.ap 2 t26 t30),M s6 t31]) .sk)))) (.rg [Q s32 (.bn .add t20 (k6 1)),M s20 t32]))))))) (.sq (.rg [Q s33 (.ld true 8 t2),M s34 t6,Q s35 (.cl 75 [t33,t34]),M s4 t35]) .rt))))) [.t s4]
theorem rc78_ok:compF Tryz.prog 78=some rc78:=by kernel_rfl
def rc79:RF:=.f 1 (.sq (.rg [Q s1 (.bx t0),Q s2 (.mv kF)]) (.sq (.rg [Q s3 (.fa 1 t1),Q s4 (L t3),Q s5 (.bn .eql t4 (k6 1)),M s6 t5,oq1 s7 s6 (.fa 5 t1),oq1 s8 s6 (L t7),Q s9 (.pick t6 t8 kF),M s2 t9]) .rt)) [.t s2]
theorem rc79_ok:compF Tryz.prog 79=some rc79:=by kernel_rfl
def rc80:RF:=.f 2 (.sq (.rg [Q s4 (.mv (.c .np))]) (.sq (.dr [M s8 t0,Q s9 (.nc t8),Q s10 (.fa 0 t9),Q s11 (L t10),M s12 t1,Q s13 (.nc t12),Q s14 (.fa 0 t13),Q s15 (L t14),Q s16 (.mm true t11 t15),Q s17 (.bd (.cons (i6 0) (.cons (.i .u64 (.ofNat 0)) (.cons (.i .u64 (.ofNat 0)) (.cons (.i .u64 (.ofNat 0)) (.cons (.i .u64 (.ofNat 0)) (.cons (.i .u64 (.ofNat 0)) (.cons (.i .u64 (.ofNat 0)) (.cons (.i .u64 (.ofNat 0)) (.cons (.i .u64 (.ofNat 0)) (.cons (.i .u64 (.ofNat 0)) (.cons (.i .u64 (.ofNat 0)) (.cons (.i .u64 (.ofNat 0)) (.cons (.i .u64 (.ofNat 0)) (.cons (.i .u64 (.ofNat 0)) (.cons (.i .u64 (.ofNat 0)) (.cons (.i .u64 (.ofNat 0)) (.cons (.i .u64 (.ofNat 0)) (.cons (.i .u64 (.ofNat 0)) (.cons (.i .u64 (.ofNat 0)) (.cons (.i .u64 (.ofNat 0)) (.cons (.i .u64 (.ofNat 0)) (.cons (.i .u64 (.ofNat 0)) (.cons (.i .u64 (.ofNat 0)) (.cons (.i .u64 (.ofNat 0)) (.cons (.i .u64 (.ofNat 0)) (.cons (.i .u64 (.ofNat 0)) (.cons (.i .u64 (.ofNat 0)) (.cons (.i .u64 (.ofNat 0)) (.cons (.i .u64 (.ofNat 0)) (.cons (.i .u64 (.ofNat 0)) (.cons (.i .u64 (.ofNat 0)) (.cons (.i .u64 (.ofNat 0)) (.cons (.i .u64 (.ofNat 0)) (.cons (.i .u64 (.ofNat 0)) (.cons (.i .u64 (.ofNat 0)) (.cons (.i .u64 (.ofNat 0)) (.cons (.i .u64 (.ofNat 0)) (.cons (.i .u64 (.ofNat 0)) (.cons (.i .u64 (.ofNat 0)) (.cons (.i .u64 (.ofNat 0)) (.cons (.i .u64 (.ofNat 0)) .nil))))))))))))))))))))))))))))))))))))))))) [(0,1,t16)]),Q s18 (.bx t17),M s5 t18]) (.sq (.sq (.rg [M s19 t0,Q s20 (.nc t19),Q s21 (.fa 1 t20),Q s22 (.ld true 40 t21),Q s23 (.mv (k6 0))]) (.bl 0 (.lp (.sq (.rg [Q s24 (.bn .lss t23 (k6 40))]) (.sq (.cd t24 .sk (.ex 0)) (.sq (.bl 1 (.sq (.rg [M s25 t23,Q s26 (.ix false 40 1 t22 t23),M s6 t25,M s7 t26]) (.bl 2 (.lp (.sq (.sq (.rg [M s27 t7,Q s28 (.bn .neq t27 (.c (.i .u64 (.ofNat 0))))]) (.cd t28 .sk (.ex 2))) (.sq (.bl 3 (.dr [M s33 t5,M s34 t6,Q s35 (.nc t33),Q s36 (.fa 1 t35),Q s37 (.ip 40 1 t36 t34),.q (.d s38) .no (.ck 0 1) (L t37),M s39 t1,M s40 t7,.q (.d s41) .no .ef (.cl 154 [t40]),Q s42 (.nc t39),Q s43 (.fa 1 t42),Q s44 (.ip 40 1 t43 t41),Q s45 (L t44),Q s46 (.bn .or t38 t45),Q s47 (.nc t33),Q s48 (.fa 1 t47),Q s49 (.ip 40 1 t48 t34),.q .no .no .ef (.st 1 t49 t46)])) (.rg [M s29 t7,M s30 t7,Q s31 (.bn .sub t30 (.c (.i .u64 (.ofNat 1)))),Q s32 (.bn .and t29 t31),M s7 t32]))))))) (.rg [Q s50 (.bn .add t23 (k6 1)),M s23 t50]))))))) (.sq (.rg [M s51 t5,M s4 t51]) .rt)))) [.t s4]
theorem rc80_ok:compF Tryz.prog 80=some rc80:=by kernel_rfl
def rc81:RF:=.f 1 (.sq (.rg [Q s1 (.bx t0),Q s2 (.mv (.c .np))]) (.sq (.rg [Q s9 (.fa 1 t1),Q s10 (L t9),Q s11 (.fa 1 t1),Q s12 (L t11),Q s13 (.ln false t12),Q s14 (.mm false t13 (k6 40)),Q s15 (.sc 6 t10 none (some t14) none),M s3 t15]) (.sq (.rg [Q s4 (.mv (.c .ns))]) (.sq (.sq (.rg [M s16 t3,Q s17 (.ln false t16),Q s18 (.mv (k6 0))]) (.bl 0 (.lp (.sq (.rg [Q s19 (.bn .lss t18 t17)]) (.sq (.cd t19 .sk (.ex 0)) (.sq (.bl 1 (.sq (.rg [M s20 t18,M s5 t20]) (.sq (.rg [M s21 t5,Q s22 (.bn .add t21 (k6 1)),M s6 t22]) (.bl 2 (.lp (.sq (.sq (.rg [M s23 t6,M s24 t3,Q s25 (.ln false t24),Q s26 (.bn .lss t23 t25)]) (.cd t26 .sk (.ex 2))) (.sq (.bl 3 (.sq (.dr [M s29 t3,M s30 t5,Q s31 (.ia 6 t29 t30),Q s32 (.fa 0 t31),Q s33 (L t32),M s34 t3,M s35 t6,Q s36 (.ia 6 t34 t35),Q s37 (.fa 0 t36),Q s38 (L t37),M s7 t33,M s8 t38]) (.sq (.rg [M s39 t7,Q s40 (.bn .eql t39 (k6 0)),M s41 t40,om1 s42 s41 t8,oq1 s43 s41 (.bn .neq t42 (k6 0)),Q s44 (.pick t41 t43 kF),M s45 t44,oq2 s46 s45 (.mv t7),oq2 s47 s45 (.bn .neq t46 (k6 0)),oq2 s48 s45 (.mv t47),om1 s49 s48 t7,om1 s50 s48 t8,oq1 s51 s48 (.bn .eql t49 t50),oq2 s52 s45 (.pick t48 t51 kF),Q s53 (.pick t45 kT t52)]) (.cd t53 (.rg [M s54 t4,M s55 t5,M s56 t6,Q s57 (.bd (.cons (i6 0) (.cons (i6 0) .nil)) [(0,1,t55),(1,1,t56)]),Q s58 (.bs (.cons (i6 0) (.cons (i6 0) .nil)) 1 [(0,2,t57)]),Q s59 (.ap 2 t54 t58),M s4 t59]) .sk)))) (.rg [M s27 t6,Q s28 (.bn .add t27 (k6 1)),M s6 t28])))))))) (.rg [Q s60 (.bn .add t18 (k6 1)),M s18 t60]))))))) (.sq (.rg [Q s61 (.ld true 8 t1),M s62 t4,Q s63 (.cl 75 [t61,t62]),M s2 t63]) .rt))))) [.t s2]
theorem rc81_ok:compF Tryz.prog 81=some rc81:=by kernel_rfl
def rc82:RF:=.f 1 (.sq (.rg [Q s2 (.mv (k6 0))]) (.sq (.rg [M s3 t0,Q s4 (.nc t3),Q s5 (.fa 0 t4),Q s6 (L t5),M s2 t6]) .rt)) [.t s2]
theorem rc82_ok:compF Tryz.prog 82=some rc82:=by kernel_rfl
def rc84:RF:=.f 1 (.sq (.rg [Q s2 (.mv (.c .ns))]) (.sq (.rg [Q s3 (.mv (k6 0))]) (.sq (.sq (.rg [M s9 t0,Q s10 (.nc t9),Q s11 (.fa 1 t10),Q s12 (.ld true 40 t11),Q s13 (.mv (k6 0))]) (.bl 0 (.lp (.sq (.rg [Q s14 (.bn .lss t13 (k6 40))]) (.sq (.cd t14 .sk (.ex 0)) (.sq (.bl 1 (.sq (.rg [Q s15 (.ix false 40 1 t12 t13),M s5 t15]) (.rg [M s16 t3,M s17 t5,Q s18 (.cl 155 [t17]),Q s19 (.bn .add t16 t18),M s3 t19]))) (.rg [Q s20 (.bn .add t13 (k6 1)),M s13 t20]))))))) (.sq (.rg [M s21 t3,Q s22 (.ms (.cons (i6 0) (.cons (i6 0) .nil)) (k6 0) t21),M s6 t22]) (.sq (.sq (.rg [M s23 t0,Q s24 (.nc t23),Q s25 (.fa 1 t24),Q s26 (.ld true 40 t25),Q s27 (.mv (k6 0))]) (.bl 2 (.lp (.sq (.rg [Q s28 (.bn .lss t27 (k6 40))]) (.sq (.cd t28 .sk (.ex 2)) (.sq (.bl 3 (.sq (.rg [M s29 t27,Q s30 (.ix false 40 1 t26 t27),M s7 t29,M s8 t30]) (.bl 4 (.lp (.sq (.sq (.rg [M s31 t8,Q s32 (.bn .neq t31 (.c (.i .u64 (.ofNat 0))))]) (.cd t32 .sk (.ex 4))) (.sq (.bl 5 (.rg [M s37 t6,M s38 t7,M s39 t8,Q s40 (.cl 154 [t39]),Q s41 (.bd (.cons (i6 0) (.cons (i6 0) .nil)) [(0,1,t38),(1,1,t40)]),Q s42 (.bs (.cons (i6 0) (.cons (i6 0) .nil)) 1 [(0,2,t41)]),Q s43 (.ap 2 t37 t42),M s6 t43])) (.rg [M s33 t8,M s34 t8,Q s35 (.bn .sub t34 (.c (.i .u64 (.ofNat 1)))),Q s36 (.bn .and t33 t35),M s8 t36]))))))) (.rg [Q s44 (.bn .add t27 (k6 1)),M s27 t44]))))))) (.sq (.rg [M s45 t6,M s2 t45]) .rt)))))) [.t s2]
theorem rc84_ok:compF Tryz.prog 84=some rc84:=by kernel_rfl
def rc86:RF:=.f 2 (.sq (.rg [Q s2 (.mv (.c .np))]) (.sq (.rg [Q s3 (L t0),Q s4 (L t1),Q s5 (.cl 80 [t3,t4]),M s2 t5]) .rt)) [.t s2]
theorem rc86_ok:compF Tryz.prog 86=some rc86:=by kernel_rfl
def rc87:RF:=.f 2 (.sq (.rg [Q s2 (.mv (.c .np))]) (.sq (.dr [Q s3 (.ld true 8 t0),Q s4 (.bs (.cons (i6 0) .nil) 1 [(0,1,(k6 1))]),.q (.d s5) .no .ef (.cl 65 [t3,(k6 1),t4]),.q (.d s6) .no (.ck 0 1) (L t1),.q (.d s7) .no .ef (.cl 80 [t5,t6]),M s2 t7]) .rt)) [.t s2]
theorem rc87_ok:compF Tryz.prog 87=some rc87:=by kernel_rfl
def rc88:RF:=.f 2 (.sq (.rg [Q s2 (.mv (.c .np))]) (.sq (.rg [Q s3 (L t0),Q s4 (L t1),Q s5 (.cl 80 [t3,t4]),M s2 t5]) .rt)) [.t s2]
theorem rc88_ok:compF Tryz.prog 88=some rc88:=by kernel_rfl
def rc89:RF:=.f 2 (.sq (.rg [Q s2 (.mv (.c .np))]) (.sq (.rg [Q s3 (L t0),Q s4 (L t1),Q s5 (.cl 80 [t3,t4]),M s2 t5]) .rt)) [.t s2]
theorem rc89_ok:compF Tryz.prog 89=some rc89:=by kernel_rfl
def rc90:RF:=.f 2 (.sq (.rg [Q s2 (.mv (.c .np))]) (.sq (.dr [.q (.d s3) .no (.ck 0 2) (L t0),Q s4 (.ld true 8 t1),.q (.d s5) .no .ef (.cl 91 [t4]),.q (.d s6) .no (.ck 0 1) (.ld true 8 t1),.q (.d s7) .no .ef (.cl 65 [t6,(k6 2),(.c .ns)]),Q s8 (.bs (.cons .np (.cons .np .nil)) 2 [(0,1,t5),(1,1,t7)]),.q (.d s9) .no .ef (.cl 64 [t3,t8]),M s2 t9]) .rt)) [.t s2]
theorem rc90_ok:compF Tryz.prog 90=some rc90:=by kernel_rfl
def rc91:RF:=.f 1 (.sq (.rg [Q s1 (.bx t0),Q s2 (.mv (.c .np))]) (.sq (.dr [.q (.d s3) .no (.ck 0 1) (.ld true 8 t1),Q s4 (.ld true 8 t1),.q (.d s5) .no .ef (.cl 81 [t4]),.q (.d s6) .no .ef (.cl 147 [t3,t5,(.c (.fn 156 .nil))]),M s2 t6]) .rt)) [.t s2]
theorem rc91_ok:compF Tryz.prog 91=some rc91:=by kernel_rfl
def rc105:RF:=.f 1 (.sq (.rg [Q s1 (.bx t0),Q s2 (.mv (.c .np))]) (.sq (.dr [.q (.d s3) .no .ef (.cl 149 []),.q (.d s4) .no .ef (.ml 2 .nf false t3 (.c (.s [99,111]))),.q (.d s5) .no (.ck 0 2) (.ld true 8 t1),.q (.d s6) .no .ef (.cf t4 [t5]),M s2 t6]) .rt)) [.t s2]
theorem rc105_ok:compF Tryz.prog 105=some rc105:=by kernel_rfl
def rc106:RF:=.f 2 (.sq (.rg [Q s4 (.mv (.c .np))]) (.sq (.rg [M s5 t0,M s6 t1,Q s7 (.cl 158 [t5,t6,(.c (.fn 159 .nil))]),M s4 t7]) .rt)) [.t s4]
theorem rc106_ok:compF Tryz.prog 106=some rc106:=by kernel_rfl
def rc110:RF:=.f 1 (.sq (.rg [Q s1 (.bx t0),Q s2 (.mv (.c .np))]) (.sq (.dr [Q s3 (.ld true 8 t1),.q (.d s4) .no .ef (.cl 81 [t3]),.q (.d s5) .no (.ck 0 1) (.ld true 8 t1),.q (.d s6) .no .ef (.cl 160 [t5]),Q s7 (.bs (.cons .np .nil) 1 [(0,1,t6)]),.q (.d s8) .no .ef (.cl 124 [t4,t7]),.q (.d s9) .no .ef (.cl 66 [t8]),M s2 t9]) .rt)) [.t s2]
theorem rc110_ok:compF Tryz.prog 110=some rc110:=by kernel_rfl
def rc111:RF:=.f 1 (.sq (.rg [Q s1 (.bx t0),Q s2 (.mv (.c .np))]) (.sq (.rg [Q s7 (.ld true 8 t1),Q s8 (.cl 75 [t7,(.c .ns)]),M s3 t8]) (.sq (.rg [Q s9 (.cl 149 []),M s4 t9]) (.sq (.sq (.rg [Q s10 (.bd (.cons (.s []) (.cons (.s []) (.cons (.s []) .nil))) [(0,1,(.c (.s [114,102]))),(1,1,(.c (.s [99,111]))),(2,1,(.c (.s [102,114])))]),Q s11 (.mv (k6 0))]) (.bl 0 (.lp (.sq (.rg [Q s12 (.bn .lss t11 (k6 3))]) (.sq (.cd t12 .sk (.ex 0)) (.sq (.bl 1 (.sq (.rg [Q s13 (.ix false 3 1 t10 t11),M s6 t13]) (.rg [M s14 t3,M s15 t4,M s16 t6,Q s17 (.ml 2 .nf false t15 t16),Q s18 (.ld true 8 t1),Q s19 (.cf t17 [t18]),Q s20 (.cl 122 [t14,t19]),M s3 t20]))) (.rg [Q s21 (.bn .add t11 (k6 1)),M s11 t21]))))))) (.sq (.rg [M s22 t3,Q s23 (.cl 66 [t22]),M s2 t23]) .rt))))) [.t s2]
theorem rc111_ok:compF Tryz.prog 111=some rc111:=by kernel_rfl
def rc122:RF:=.f 2 (.sq (.rg [Q s4 (.mv (.c .np))]) (.sq (.rg [M s5 t0,M s6 t1,Q s7 (.cl 158 [t5,t6,(.c (.fn 166 .nil))]),M s4 t7]) .rt)) [.t s4]
theorem rc122_ok:compF Tryz.prog 122=some rc122:=by kernel_rfl
def rc123:RF:=.f 2 (.sq (.rg [Q s4 (.mv (.c .np))]) (.sq (.rg [M s5 t0,M s6 t1,Q s7 (.cl 158 [t5,t6,(.c (.fn 167 .nil))]),M s4 t7]) .rt)) [.t s4]
theorem rc123_ok:compF Tryz.prog 123=some rc123:=by kernel_rfl
def rc124:RF:=.f 2 (.sq (.rg [Q s4 (.mv (.c .np))]) (.sq (.sq (.rg [M s7 t1,Q s8 (.ln false t7),Q s9 (.mv (k6 0))]) (.bl 0 (.lp (.sq (.rg [Q s10 (.bn .lss t9 t8)]) (.sq (.cd t10 .sk (.ex 0)) (.sq (.bl 1 (.sq (.rg [Q s11 (.ia 1 t7 t9),Q s12 (L t11),M s6 t12]) (.rg [M s13 t0,M s14 t6,Q s15 (.cl 122 [t13,t14]),M s0 t15]))) (.rg [Q s16 (.bn .add t9 (k6 1)),M s9 t16]))))))) (.sq (.rg [M s17 t0,M s4 t17]) .rt))) [.t s4]
theorem rc124_ok:compF Tryz.prog 124=some rc124:=by kernel_rfl
def rc138:RF:=.f 1 (.sq (.rg [Q s2 (.mv (.c .np))]) (.sq (.rg [M s3 t0,Q s4 (.cl 66 [t3]),Q s5 (.cl 174 [t4]),M s2 t5]) .rt)) [.t s2]
theorem rc138_ok:compF Tryz.prog 138=some rc138:=by kernel_rfl
def rc147:RF:=.f 3 (.sq (.rg [Q s3 (.bx t0),Q s6 (.mv (.c .np))]) (.sq (.rg [Q s11 (.fa 1 t3),Q s12 (L t11),Q s13 (.ln false t12),M s7 t13]) (.sq (.rg [Q s8 (.mv (.c .ns))]) (.sq (.sq (.rg [M s14 t1,Q s15 (.cl 84 [t14]),Q s16 (.ln false t15),Q s17 (.mv (k6 0))]) (.bl 0 (.lp (.sq (.rg [Q s18 (.bn .lss t17 t16)]) (.sq (.cd t18 .sk (.ex 0)) (.sq (.bl 1 (.sq (.rg [Q s19 (.ia 2 t15 t17),Q s20 (.ld true 2 t19),Q s10 (.al (.cons (i6 0) (.cons (i6 0) .nil))),Z (.st 2 t10 t20)]) (.sq (.dr [Q s21 (.fa 0 t10),Q s22 (L t21),M s23 t7,Q s24 (.bn .lss t22 t23),M s25 t24,oq1 s26 s25 (.fa 1 t10),oq1 s27 s25 (L t26),om1 s28 s25 t7,oq1 s29 s25 (.bn .lss t27 t28),Q s30 (.pick t25 t29 kF),M s31 t30,om1 s32 s31 t2,oq1 s33 s31 (.fa 1 t3),oq1 s34 s31 (L t33),oq1 s35 s31 (.fa 0 t10),oq1 s36 s31 (L t35),oq1 s37 s31 (.ia 6 t34 t36),oq1 s38 s31 (.fa 1 t3),oq1 s39 s31 (L t38),oq1 s40 s31 (.fa 1 t10),oq1 s41 s31 (L t40),oq1 s42 s31 (.ia 6 t39 t41),.q (.d s43) (.g s31 true) .ef (.cf t32 [t37,t42]),Q s44 (.pick t31 t43 kF)]) (.cd t44 (.rg [M s45 t8,Q s46 (.ld true 2 t10),Q s47 (.bs (.cons (i6 0) (.cons (i6 0) .nil)) 1 [(0,2,t46)]),Q s48 (.ap 2 t45 t47),M s8 t48]) .sk)))) (.rg [Q s49 (.bn .add t17 (k6 1)),M s17 t49]))))))) (.sq (.rg [M s50 t7,M s51 t1,Q s52 (.cl 82 [t51]),Q s53 (.mm true t50 t52),M s54 t8,Q s55 (.cl 152 [t53,t54]),M s6 t55]) .rt))))) [.t s6]
theorem rc147_ok:compF Tryz.prog 147=some rc147:=by kernel_rfl
def rc148:RF:=.f 2 (.sq (.rg [Q s4 (.mv kF)]) (.sq (.dr [M s5 t0,Q s6 (.nc t5),Q s7 (.fa 0 t6),Q s8 (L t7),M s9 t1,Q s10 (.nc t9),Q s11 (.fa 0 t10),Q s12 (L t11),Q s13 (.bn .eql t8 t12),M s4 t13]) .rt)) [.t s4]
theorem rc148_ok:compF Tryz.prog 148=some rc148:=by kernel_rfl
def rc149:RF:=.f 0 (.sq (.rg [Q s0 (.mv (.c (.fn 33554432 (.cons (.b true) .nil))))]) (.sq (.rg [Q s1 (.mk),Z (.mi 2 t1 (.c (.s [114,102])) (.c (.fn 179 .nil))),Z (.mi 2 t1 (.c (.s [99,111])) (.c (.fn 180 .nil))),Z (.mi 2 t1 (.c (.s [102,114])) (.c (.fn 181 .nil))),M s2 t1,M s0 t2]) .rt)) [.t s0]
theorem rc149_ok:compF Tryz.prog 149=some rc149:=by kernel_rfl
def rc150:RF:=.f 3 (.sq (.rg [Q s3 (.bx t0),Q s4 (.mv kF)]) (.sq (.rg [Q s5 (.fa 1 t3),Q s6 (L t5),Q s7 (L t1),Q s8 (.bn .eql t6 t7),M s9 t8,oq1 s10 s9 (L t2),oq1 s11 s9 (.ln false t10),oq1 s12 s9 (.bn .eql t11 (k6 0)),om1 s13 s9 t12,oq2 s14 s13 (L t2),oq2 s15 s13 (.fa 2 t3),oq2 s16 s13 (L t15),oq2 s17 s13 (.cl 151 [t14,t16]),oq1 s18 s9 (.pick t13 kT t17),Q s19 (.pick t9 t18 kF),M s4 t19]) .rt)) [.t s4]
theorem rc150_ok:compF Tryz.prog 150=some rc150:=by kernel_rfl
def rc151:RF:=.f 2 (.sq (.rg [Q s4 (.mv kF)]) (.sq (.rg [M s5 t0,M s6 t1,Q s7 (.cl 183 [t5,t6]),Q s8 (.bn .geq t7 (k6 0)),M s4 t8]) .rt)) [.t s4]
theorem rc151_ok:compF Tryz.prog 151=some rc151:=by kernel_rfl
def rc152:RF:=.f 2 (.sq (.rg [Q s4 (.mv (.c .np))]) (.sq (.rg [M s8 t0,Q s9 (.mm true t8 (k6 0)),Q s10 (.mm false t9 (k6 40)),Q s11 (.bd (.cons (i6 0) (.cons (.i .u64 (.ofNat 0)) (.cons (.i .u64 (.ofNat 0)) (.cons (.i .u64 (.ofNat 0)) (.cons (.i .u64 (.ofNat 0)) (.cons (.i .u64 (.ofNat 0)) (.cons (.i .u64 (.ofNat 0)) (.cons (.i .u64 (.ofNat 0)) (.cons (.i .u64 (.ofNat 0)) (.cons (.i .u64 (.ofNat 0)) (.cons (.i .u64 (.ofNat 0)) (.cons (.i .u64 (.ofNat 0)) (.cons (.i .u64 (.ofNat 0)) (.cons (.i .u64 (.ofNat 0)) (.cons (.i .u64 (.ofNat 0)) (.cons (.i .u64 (.ofNat 0)) (.cons (.i .u64 (.ofNat 0)) (.cons (.i .u64 (.ofNat 0)) (.cons (.i .u64 (.ofNat 0)) (.cons (.i .u64 (.ofNat 0)) (.cons (.i .u64 (.ofNat 0)) (.cons (.i .u64 (.ofNat 0)) (.cons (.i .u64 (.ofNat 0)) (.cons (.i .u64 (.ofNat 0)) (.cons (.i .u64 (.ofNat 0)) (.cons (.i .u64 (.ofNat 0)) (.cons (.i .u64 (.ofNat 0)) (.cons (.i .u64 (.ofNat 0)) (.cons (.i .u64 (.ofNat 0)) (.cons (.i .u64 (.ofNat 0)) (.cons (.i .u64 (.ofNat 0)) (.cons (.i .u64 (.ofNat 0)) (.cons (.i .u64 (.ofNat 0)) (.cons (.i .u64 (.ofNat 0)) (.cons (.i .u64 (.ofNat 0)) (.cons (.i .u64 (.ofNat 0)) (.cons (.i .u64 (.ofNat 0)) (.cons (.i .u64 (.ofNat 0)) (.cons (.i .u64 (.ofNat 0)) (.cons (.i .u64 (.ofNat 0)) (.cons (.i .u64 (.ofNat 0)) .nil))))))))))))))))))))))))))))))))))))))))) [(0,1,t10)]),Q s12 (.bx t11),M s5 t12]) (.sq (.sq (.rg [M s13 t1,Q s14 (.ln false t13),Q s15 (.mv (k6 0))]) (.bl 0 (.lp (.sq (.rg [Q s16 (.bn .lss t15 t14)]) (.sq (.cd t16 .sk (.ex 0)) (.sq (.bl 1 (.sq (.rg [Q s17 (.ia 2 t13 t15),Q s18 (.ld true 2 t17),Q s7 (.al (.cons (i6 0) (.cons (i6 0) .nil))),Z (.st 2 t7 t18)]) (.sq (.rg [M s19 t5,Q s20 (.fa 0 t7),Q s21 (L t20),Q s22 (.cl 67 [t19,t21]),M s23 t22,om1 s24 s23 t5,oq1 s25 s23 (.fa 1 t7),oq1 s26 s23 (L t25),oq1 s27 s23 (.cl 67 [t24,t26]),Q s28 (.pick t23 t27 kF)]) (.cd t28 (.dr [M s29 t5,Q s30 (.fa 0 t7),Q s31 (L t30),Q s32 (.nc t29),Q s33 (.fa 1 t32),Q s34 (.ip 40 1 t33 t31),Q s35 (L t34),Q s36 (.fa 1 t7),Q s37 (L t36),Q s38 (.bn .shl (.c (.i .u64 (.ofNat 1))) t37),Q s39 (.bn .or t35 t38),Q s40 (.nc t29),Q s41 (.fa 1 t40),Q s42 (.ip 40 1 t41 t31),.q .no .no .ef (.st 1 t42 t39)]) .sk)))) (.rg [Q s43 (.bn .add t15 (k6 1)),M s15 t43]))))))) (.sq (.rg [M s44 t5,M s4 t44]) .rt)))) [.t s4]
theorem rc152_ok:compF Tryz.prog 152=some rc152:=by kernel_rfl
def rc153:RF:=.f 2 (.sq (.rg [Q s2 (.bx t0),Q s4 (.mv kF)]) (.sq (.dr [M s5 t1,Q s6 (.bn .leq (k6 0) t5),M s7 t6,om1 s8 s7 t1,oq1 s9 s7 (.fa 0 t2),oq1 s10 s7 (L t9),oq1 s11 s7 (.ln false t10),oq1 s12 s7 (.bn .lss t8 t11),Q s13 (.pick t7 t12 kF),M s14 t13,oq1 s15 s14 (.fa 1 t2),oq1 s16 s14 (L t15),oq1 s17 s14 (.fa 0 t2),oq1 s18 s14 (L t17),om1 s19 s14 t1,oq1 s20 s14 (.ia 6 t18 t19),oq1 s21 s14 (.ld true 6 t20),.q (.d s22) (.g s14 true) .ef (.cf t16 [t21]),Q s23 (.pick t14 t22 kF),M s4 t23]) .rt)) [.t s4]
theorem rc153_ok:compF Tryz.prog 153=some rc153:=by kernel_rfl
def rc154:RF:=.f 1 (.sq (.rg [Q s2 (.mv (k6 0))]) (.sq (.sq (.rg [M s3 t0,Q s4 (.bn .eql t3 (.c (.i .u64 (.ofNat 0))))]) (.cd t4 (.sq (.rg [Q s2 (.mv (k6 64))]) .rt) .sk)) (.sq (.rg [M s5 t0,M s6 t0,Q s7 (.ng t6),Q s8 (.bn .and t5 t7),Q s9 (.bn .mul t8 (.c (.i .u64 (.ofNat 285870213051353865)))),Q s10 (.bn .shr t9 (.c (.i .u64 (.ofNat 58)))),Q s11 (.ip 64 1 (.c (.p 0 0)) t10),Q s12 (L t11),Q s13 (.cv .i64 t12),M s2 t13]) .rt))) [.t s2]
theorem rc154_ok:compF Tryz.prog 154=some rc154:=by kernel_rfl
def rc155:RF:=.f 1 (.sq (.rg [Q s2 (.mv (k6 0))]) (.sq (.rg [M s3 t0,Q s4 (.bn .shr t3 (.c (.i .u64 (.ofNat 1)))),Q s5 (.bn .and t4 (.c (.i .u64 (.ofNat 6148914691236517205)))),M s6 t0,Q s7 (.bn .and t6 (.c (.i .u64 (.ofNat 6148914691236517205)))),Q s8 (.bn .add t5 t7),M s0 t8]) (.sq (.rg [M s9 t0,Q s10 (.bn .shr t9 (.c (.i .u64 (.ofNat 2)))),Q s11 (.bn .and t10 (.c (.i .u64 (.ofNat 3689348814741910323)))),M s12 t0,Q s13 (.bn .and t12 (.c (.i .u64 (.ofNat 3689348814741910323)))),Q s14 (.bn .add t11 t13),M s0 t14]) (.sq (.rg [M s15 t0,Q s16 (.bn .shr t15 (.c (.i .u64 (.ofNat 4)))),M s17 t0,Q s18 (.bn .add t16 t17),Q s19 (.bn .and t18 (.c (.i .u64 (.ofNat 1085102592571150095)))),M s0 t19]) (.sq (.rg [M s20 t0,M s21 t0,Q s22 (.bn .shr t21 (.c (.i .u64 (.ofNat 8)))),Q s23 (.bn .add t20 t22),M s0 t23]) (.sq (.rg [M s24 t0,M s25 t0,Q s26 (.bn .shr t25 (.c (.i .u64 (.ofNat 16)))),Q s27 (.bn .add t24 t26),M s0 t27]) (.sq (.rg [M s28 t0,M s29 t0,Q s30 (.bn .shr t29 (.c (.i .u64 (.ofNat 32)))),Q s31 (.bn .add t28 t30),M s0 t31]) (.sq (.rg [M s32 t0,Q s33 (.cv .i64 t32),Q s34 (.bn .and t33 (k6 127)),M s2 t34]) .rt)))))))) [.t s2]
theorem rc155_ok:compF Tryz.prog 155=some rc155:=by kernel_rfl
def rc156:RF:=.f 2 (.sq (.rg [Q s4 (.mv kF)]) (.sq (.dr [M s5 t0,Q s6 (.nc t5),Q s7 (.fa 1 t6),Q s8 (L t7),Q s9 (.bn .neq t8 (k6 3)),M s10 t9,om1 s11 s10 t1,oq1 s12 s10 (.nc t11),oq1 s13 s10 (.fa 1 t12),oq1 s14 s10 (L t13),oq1 s15 s10 (.bn .neq t14 (k6 3)),Q s16 (.pick t10 t15 kF),M s17 t16,om1 s18 s17 t0,oq1 s19 s17 (.nc t18),oq1 s20 s17 (.fa 3 t19),oq1 s21 s17 (L t20),om1 s22 s17 t1,oq1 s23 s17 (.nc t22),oq1 s24 s17 (.fa 3 t23),oq1 s25 s17 (L t24),oq1 s26 s17 (.bn .eql t21 t25),Q s27 (.pick t17 t26 kF),M s4 t27]) .rt)) [.t s4]
theorem rc156_ok:compF Tryz.prog 156=some rc156:=by kernel_rfl
def rc158:RF:=.f 3 (.sq (.rg [Q s6 (.mv (.c .np))]) (.sq (.dr [M s9 t0,Q s10 (.nc t9),Q s11 (.fa 0 t10),Q s12 (L t11),M s13 t1,Q s14 (.nc t13),Q s15 (.fa 0 t14),Q s16 (L t15),Q s17 (.mm true t12 t16),Q s18 (.bd (.cons (i6 0) (.cons (.i .u64 (.ofNat 0)) (.cons (.i .u64 (.ofNat 0)) (.cons (.i .u64 (.ofNat 0)) (.cons (.i .u64 (.ofNat 0)) (.cons (.i .u64 (.ofNat 0)) (.cons (.i .u64 (.ofNat 0)) (.cons (.i .u64 (.ofNat 0)) (.cons (.i .u64 (.ofNat 0)) (.cons (.i .u64 (.ofNat 0)) (.cons (.i .u64 (.ofNat 0)) (.cons (.i .u64 (.ofNat 0)) (.cons (.i .u64 (.ofNat 0)) (.cons (.i .u64 (.ofNat 0)) (.cons (.i .u64 (.ofNat 0)) (.cons (.i .u64 (.ofNat 0)) (.cons (.i .u64 (.ofNat 0)) (.cons (.i .u64 (.ofNat 0)) (.cons (.i .u64 (.ofNat 0)) (.cons (.i .u64 (.ofNat 0)) (.cons (.i .u64 (.ofNat 0)) (.cons (.i .u64 (.ofNat 0)) (.cons (.i .u64 (.ofNat 0)) (.cons (.i .u64 (.ofNat 0)) (.cons (.i .u64 (.ofNat 0)) (.cons (.i .u64 (.ofNat 0)) (.cons (.i .u64 (.ofNat 0)) (.cons (.i .u64 (.ofNat 0)) (.cons (.i .u64 (.ofNat 0)) (.cons (.i .u64 (.ofNat 0)) (.cons (.i .u64 (.ofNat 0)) (.cons (.i .u64 (.ofNat 0)) (.cons (.i .u64 (.ofNat 0)) (.cons (.i .u64 (.ofNat 0)) (.cons (.i .u64 (.ofNat 0)) (.cons (.i .u64 (.ofNat 0)) (.cons (.i .u64 (.ofNat 0)) (.cons (.i .u64 (.ofNat 0)) (.cons (.i .u64 (.ofNat 0)) (.cons (.i .u64 (.ofNat 0)) (.cons (.i .u64 (.ofNat 0)) .nil))))))))))))))))))))))))))))))))))))))))) [(0,1,t17)]),Q s19 (.bx t18),M s7 t19]) (.sq (.sq (.rg [Q s20 (.mv (k6 0))]) (.bl 0 (.lp (.sq (.rg [Q s21 (.bn .lss t20 (k6 40))]) (.sq (.cd t21 .sk (.ex 0)) (.sq (.bl 1 (.sq (.rg [M s22 t20,M s8 t22]) (.dr [M s23 t7,M s24 t8,M s25 t2,M s26 t0,M s27 t8,Q s28 (.nc t26),Q s29 (.fa 1 t28),Q s30 (.ip 40 1 t29 t27),Q s31 (L t30),M s32 t1,M s33 t8,Q s34 (.nc t32),Q s35 (.fa 1 t34),Q s36 (.ip 40 1 t35 t33),Q s37 (L t36),.q (.d s38) .no .ef (.cf t25 [t31,t37]),Q s39 (.nc t23),Q s40 (.fa 1 t39),Q s41 (.ip 40 1 t40 t24),.q .no .no .ef (.st 1 t41 t38)]))) (.rg [Q s42 (.bn .add t20 (k6 1)),M s20 t42]))))))) (.sq (.rg [M s43 t7,M s6 t43]) .rt)))) [.t s6]
theorem rc158_ok:compF Tryz.prog 158=some rc158:=by kernel_rfl
def rc159:RF:=.f 2 (.sq (.rg [Q s4 (.mv (.c (.i .u64 (.ofNat 0))))]) (.sq (.rg [M s5 t0,M s6 t1,Q s7 (.bn .and t5 t6),M s4 t7]) .rt)) [.t s4]
theorem rc159_ok:compF Tryz.prog 159=some rc159:=by kernel_rfl
def rc160:RF:=.f 1 (.sq (.rg [Q s1 (.bx t0),Q s2 (.mv (.c .np))]) (.sq (.rg [Q s7 (.ld true 8 t1),Q s8 (.cl 63 [t7]),M s3 t8]) (.sq (.dr [Q s9 (.ld true 8 t1),M s10 t3,.q (.d s11) .no .ef (.cl 62 [t9,t10]),.q (.d s12) .no (.ck 0 1) (.ld true 8 t1),.q (.d s13) .no .ef (.cl 91 [t12]),.q (.d s14) .no .ef (.cl 174 [t13]),.q (.d s15) .no (.ck 0 3) (.ld true 8 t1),M s16 t3,.q (.d s17) .no .ef (.cl 69 [t15,t16]),Q s18 (.bs (.cons .np .nil) 1 [(0,1,t17)]),.q (.d s19) .no .ef (.cl 64 [t14,t18]),Q s20 (.bs (.cons .np .nil) 1 [(0,1,t19)]),.q (.d s21) .no .ef (.cl 124 [t11,t20]),M s4 t21]) (.sq (.rg [Q s22 (.ld true 8 t1),Q s23 (.bs (.cons (i6 0) .nil) 1 [(0,1,(k6 1))]),Q s24 (.cl 65 [t22,(k6 1),t23]),M s5 t24]) (.sq (.rg [Q s25 (.ld true 8 t1),Q s26 (.bs (.cons (i6 0) (.cons (i6 0) (.cons (i6 0) .nil))) 3 [(0,1,(k6 1)),(1,1,(k6 3)),(2,1,(k6 4))]),Q s27 (.cl 65 [t25,(k6 3),t26]),M s6 t27]) (.sq (.dr [Q s28 (.ld true 8 t1),.q (.d s29) .no .ef (.cl 184 [t28]),M s30 t4,M s31 t5,.q (.d s32) .no (.ck 0 1) (.ld true 8 t1),.q (.d s33) .no .ef (.cl 81 [t32]),M s34 t6,Q s35 (.bs (.cons .np .nil) 1 [(0,1,t34)]),.q (.d s36) .no .ef (.cl 64 [t33,t35]),Q s37 (.bs (.cons .np .nil) 1 [(0,1,t36)]),.q (.d s38) .no .ef (.cl 124 [t31,t37]),Q s39 (.bs (.cons .np (.cons .np .nil)) 2 [(0,1,t30),(1,1,t38)]),.q (.d s40) .no .ef (.cl 64 [t29,t39]),M s2 t40]) .rt)))))) [.t s2]
theorem rc160_ok:compF Tryz.prog 160=some rc160:=by kernel_rfl
def rc166:RF:=.f 2 (.sq (.rg [Q s4 (.mv (.c (.i .u64 (.ofNat 0))))]) (.sq (.rg [M s5 t0,M s6 t1,Q s7 (.bn .or t5 t6),M s4 t7]) .rt)) [.t s4]
theorem rc166_ok:compF Tryz.prog 166=some rc166:=by kernel_rfl
def rc167:RF:=.f 2 (.sq (.rg [Q s4 (.mv (.c (.i .u64 (.ofNat 0))))]) (.sq (.rg [M s5 t0,M s6 t1,Q s7 (.bn .andNot t5 t6),M s4 t7]) .rt)) [.t s4]
theorem rc167_ok:compF Tryz.prog 167=some rc167:=by kernel_rfl
def rc174:RF:=.f 1 (.sq (.rg [Q s2 (.mv (.c .np))]) (.sq (.dr [M s5 t0,Q s6 (.nc t5),Q s7 (.fa 0 t6),Q s8 (L t7),M s9 t0,Q s10 (.nc t9),Q s11 (.fa 1 t10),Q s12 (.ld true 40 t11),Q s13 (.bd (.cons (i6 0) (.cons (.i .u64 (.ofNat 0)) (.cons (.i .u64 (.ofNat 0)) (.cons (.i .u64 (.ofNat 0)) (.cons (.i .u64 (.ofNat 0)) (.cons (.i .u64 (.ofNat 0)) (.cons (.i .u64 (.ofNat 0)) (.cons (.i .u64 (.ofNat 0)) (.cons (.i .u64 (.ofNat 0)) (.cons (.i .u64 (.ofNat 0)) (.cons (.i .u64 (.ofNat 0)) (.cons (.i .u64 (.ofNat 0)) (.cons (.i .u64 (.ofNat 0)) (.cons (.i .u64 (.ofNat 0)) (.cons (.i .u64 (.ofNat 0)) (.cons (.i .u64 (.ofNat 0)) (.cons (.i .u64 (.ofNat 0)) (.cons (.i .u64 (.ofNat 0)) (.cons (.i .u64 (.ofNat 0)) (.cons (.i .u64 (.ofNat 0)) (.cons (.i .u64 (.ofNat 0)) (.cons (.i .u64 (.ofNat 0)) (.cons (.i .u64 (.ofNat 0)) (.cons (.i .u64 (.ofNat 0)) (.cons (.i .u64 (.ofNat 0)) (.cons (.i .u64 (.ofNat 0)) (.cons (.i .u64 (.ofNat 0)) (.cons (.i .u64 (.ofNat 0)) (.cons (.i .u64 (.ofNat 0)) (.cons (.i .u64 (.ofNat 0)) (.cons (.i .u64 (.ofNat 0)) (.cons (.i .u64 (.ofNat 0)) (.cons (.i .u64 (.ofNat 0)) (.cons (.i .u64 (.ofNat 0)) (.cons (.i .u64 (.ofNat 0)) (.cons (.i .u64 (.ofNat 0)) (.cons (.i .u64 (.ofNat 0)) (.cons (.i .u64 (.ofNat 0)) (.cons (.i .u64 (.ofNat 0)) (.cons (.i .u64 (.ofNat 0)) (.cons (.i .u64 (.ofNat 0)) .nil))))))))))))))))))))))))))))))))))))))))) [(0,1,t8),(1,40,t12)]),Q s14 (.bx t13),M s3 t14]) (.sq (.sq (.rg [M s15 t0,Q s16 (.nc t15),Q s17 (.fa 0 t16),Q s18 (L t17),Q s19 (.mv (k6 0))]) (.bl 0 (.lp (.sq (.rg [Q s20 (.bn .lss t19 t18)]) (.sq (.cd t20 .sk (.ex 0)) (.sq (.bl 1 (.sq (.rg [M s21 t19,M s4 t21]) (.dr [M s22 t3,M s23 t4,Q s24 (.nc t22),Q s25 (.fa 1 t24),Q s26 (.ip 40 1 t25 t23),Q s27 (L t26),M s28 t4,Q s29 (.bn .shl (.c (.i .u64 (.ofNat 1))) t28),Q s30 (.bn .or t27 t29),Q s31 (.nc t22),Q s32 (.fa 1 t31),Q s33 (.ip 40 1 t32 t23),.q .no .no .ef (.st 1 t33 t30)]))) (.rg [Q s34 (.bn .add t19 (k6 1)),M s19 t34]))))))) (.sq (.rg [M s35 t3,M s2 t35]) .rt)))) [.t s2]
theorem rc174_ok:compF Tryz.prog 174=some rc174:=by kernel_rfl
def rc179:RF:=.f 1 (.sq (.rg [Q s1 (.bx t0),Q s2 (.mv (.c .np))]) (.sq (.rg [Q s3 (.mv (.c .ns))]) (.sq (.sq (.rg [Q s6 (.fa 2 t1),Q s7 (L t6),Q s8 (.ln false t7),Q s9 (.mv (k6 0))]) (.bl 0 (.lp (.sq (.rg [Q s10 (.bn .lss t9 t8)]) (.sq (.cd t10 .sk (.ex 0)) (.sq (.bl 1 (.sq (.rg [M s11 t9,Q s12 (.ia 1 t7 t9),Q s13 (L t12),M s4 t11,M s5 t13]) (.rg [M s14 t3,M s15 t5,M s16 t4,Q s17 (.bd (.cons (i6 0) (.cons (i6 0) .nil)) [(0,1,t15),(1,1,t16)]),Q s18 (.bs (.cons (i6 0) (.cons (i6 0) .nil)) 1 [(0,2,t17)]),Q s19 (.ap 2 t14 t18),M s3 t19]))) (.rg [Q s20 (.bn .add t9 (k6 1)),M s9 t20]))))))) (.sq (.rg [Q s21 (.ld true 8 t1),M s22 t3,Q s23 (.cl 75 [t21,t22]),M s2 t23]) .rt)))) [.t s2]
theorem rc179_ok:compF Tryz.prog 179=some rc179:=by kernel_rfl
def rc180:RF:=.f 1 (.sq (.rg [Q s1 (.bx t0),Q s2 (.mv (.c .np))]) (.sq (.rg [Q s3 (.mv (.c .ns))]) (.sq (.sq (.rg [Q s10 (.fa 3 t1),Q s11 (L t10),Q s12 (.fa 3 t1),Q s13 (L t12),Q s14 (.ln false t13),Q s15 (.mm false t14 (k6 4)),Q s16 (.sc 1 t11 none (some t15) none),Q s17 (.ln false t16),Q s18 (.mv (k6 0))]) (.bl 0 (.lp (.sq (.rg [Q s19 (.bn .lss t18 t17)]) (.sq (.cd t19 .sk (.ex 0)) (.sq (.bl 1 (.sq (.rg [Q s20 (.ia 1 t16 t18),Q s21 (L t20),M s5 t21]) (.sq (.rg [M s22 t5,M s23 t5,Q s24 (.ln false t23),Q s25 (.mm false t24 (k6 40)),Q s26 (.sc 1 t22 none (some t25) none),M s5 t26]) (.sq (.rg [M s27 t5,Q s28 (.ln false t27),Q s29 (.mv (k6 0))]) (.bl 2 (.lp (.sq (.rg [Q s30 (.bn .lss t29 t28)]) (.sq (.cd t30 .sk (.ex 2)) (.sq (.bl 3 (.sq (.rg [M s31 t29,Q s32 (.ia 1 t27 t29),Q s33 (L t32),M s6 t31,M s7 t33]) (.sq (.rg [M s34 t5,M s35 t6,Q s36 (.bn .add t35 (k6 1)),Q s37 (.sc 1 t34 (some t36) none none),Q s38 (.ln false t37),Q s39 (.mv (k6 0))]) (.bl 4 (.lp (.sq (.rg [Q s40 (.bn .lss t39 t38)]) (.sq (.cd t40 .sk (.ex 4)) (.sq (.bl 5 (.sq (.rg [Q s41 (.ia 1 t37 t39),Q s42 (L t41),M s9 t42]) (.rg [M s43 t3,M s44 t7,M s45 t9,Q s46 (.bd (.cons (i6 0) (.cons (i6 0) .nil)) [(0,1,t44),(1,1,t45)]),Q s47 (.bs (.cons (i6 0) (.cons (i6 0) .nil)) 1 [(0,2,t46)]),Q s48 (.ap 2 t43 t47),M s3 t48]))) (.rg [Q s49 (.bn .add t39 (k6 1)),M s39 t49]))))))))) (.rg [Q s50 (.bn .add t29 (k6 1)),M s29 t50])))))))))) (.rg [Q s51 (.bn .add t18 (k6 1)),M s18 t51]))))))) (.sq (.rg [Q s52 (.ld true 8 t1),M s53 t3,Q s54 (.cl 75 [t52,t53]),M s2 t54]) .rt)))) [.t s2]
theorem rc180_ok:compF Tryz.prog 180=some rc180:=by kernel_rfl
def rc181:RF:=.f 1 (.sq (.rg [Q s1 (.bx t0),Q s2 (.mv (.c .np))]) (.sq (.dr [Q s3 (.ld true 8 t1),.q (.d s4) .no .ef (.cl 179 [t3]),.q (.d s5) .no .ef (.cl 182 [t4]),.q (.d s6) .no (.ck 0 2) (.ld true 8 t1),.q (.d s7) .no .ef (.cl 180 [t6]),.q (.d s8) .no .ef (.cl 80 [t5,t7]),M s2 t8]) .rt)) [.t s2]
theorem rc181_ok:compF Tryz.prog 181=some rc181:=by kernel_rfl
def rc182:RF:=.f 1 (.sq (.rg [Q s2 (.mv (.c .np))]) (.sq (.rg [M s6 t0,Q s7 (.nc t6),Q s8 (.fa 0 t7),Q s9 (L t8),Q s10 (.bd (.cons (i6 0) (.cons (.i .u64 (.ofNat 0)) (.cons (.i .u64 (.ofNat 0)) (.cons (.i .u64 (.ofNat 0)) (.cons (.i .u64 (.ofNat 0)) (.cons (.i .u64 (.ofNat 0)) (.cons (.i .u64 (.ofNat 0)) (.cons (.i .u64 (.ofNat 0)) (.cons (.i .u64 (.ofNat 0)) (.cons (.i .u64 (.ofNat 0)) (.cons (.i .u64 (.ofNat 0)) (.cons (.i .u64 (.ofNat 0)) (.cons (.i .u64 (.ofNat 0)) (.cons (.i .u64 (.ofNat 0)) (.cons (.i .u64 (.ofNat 0)) (.cons (.i .u64 (.ofNat 0)) (.cons (.i .u64 (.ofNat 0)) (.cons (.i .u64 (.ofNat 0)) (.cons (.i .u64 (.ofNat 0)) (.cons (.i .u64 (.ofNat 0)) (.cons (.i .u64 (.ofNat 0)) (.cons (.i .u64 (.ofNat 0)) (.cons (.i .u64 (.ofNat 0)) (.cons (.i .u64 (.ofNat 0)) (.cons (.i .u64 (.ofNat 0)) (.cons (.i .u64 (.ofNat 0)) (.cons (.i .u64 (.ofNat 0)) (.cons (.i .u64 (.ofNat 0)) (.cons (.i .u64 (.ofNat 0)) (.cons (.i .u64 (.ofNat 0)) (.cons (.i .u64 (.ofNat 0)) (.cons (.i .u64 (.ofNat 0)) (.cons (.i .u64 (.ofNat 0)) (.cons (.i .u64 (.ofNat 0)) (.cons (.i .u64 (.ofNat 0)) (.cons (.i .u64 (.ofNat 0)) (.cons (.i .u64 (.ofNat 0)) (.cons (.i .u64 (.ofNat 0)) (.cons (.i .u64 (.ofNat 0)) (.cons (.i .u64 (.ofNat 0)) (.cons (.i .u64 (.ofNat 0)) .nil))))))))))))))))))))))))))))))))))))))))) [(0,1,t9)]),Q s11 (.bx t10),M s3 t11]) (.sq (.sq (.rg [M s12 t0,Q s13 (.nc t12),Q s14 (.fa 1 t13),Q s15 (.ld true 40 t14),Q s16 (.mv (k6 0))]) (.bl 0 (.lp (.sq (.rg [Q s17 (.bn .lss t16 (k6 40))]) (.sq (.cd t17 .sk (.ex 0)) (.sq (.bl 1 (.sq (.rg [M s18 t16,Q s19 (.ix false 40 1 t15 t16),M s4 t18,M s5 t19]) (.bl 2 (.lp (.sq (.sq (.rg [M s20 t5,Q s21 (.bn .neq t20 (.c (.i .u64 (.ofNat 0))))]) (.cd t21 .sk (.ex 2))) (.sq (.bl 3 (.dr [M s26 t3,M s27 t5,.q (.d s28) .no .ef (.cl 154 [t27]),Q s29 (.nc t26),Q s30 (.fa 1 t29),Q s31 (.ip 40 1 t30 t28),Q s32 (L t31),M s33 t4,Q s34 (.bn .shl (.c (.i .u64 (.ofNat 1))) t33),Q s35 (.bn .or t32 t34),Q s36 (.nc t26),Q s37 (.fa 1 t36),Q s38 (.ip 40 1 t37 t28),.q .no .no .ef (.st 1 t38 t35)])) (.rg [M s22 t5,M s23 t5,Q s24 (.bn .sub t23 (.c (.i .u64 (.ofNat 1)))),Q s25 (.bn .and t22 t24),M s5 t25]))))))) (.rg [Q s39 (.bn .add t16 (k6 1)),M s16 t39]))))))) (.sq (.rg [M s40 t3,M s2 t40]) .rt)))) [.t s2]
theorem rc182_ok:compF Tryz.prog 182=some rc182:=by kernel_rfl
def rc183:RF:=.f 2 (.sq (.rg [Q s4 (.mv (k6 0))]) (.sq (.sq (.rg [M s6 t0,Q s7 (.ln false t6),Q s8 (.mv (k6 0))]) (.bl 0 (.lp (.sq (.rg [Q s9 (.bn .lss t8 t7)]) (.sq (.cd t9 .sk (.ex 0)) (.sq (.bl 1 (.sq (.rg [M s10 t8,M s5 t10]) (.sq (.rg [M s11 t1,M s12 t0,M s13 t5,Q s14 (.ia 1 t12 t13),Q s15 (L t14),Q s16 (.bn .eql t11 t15)]) (.cd t16 (.sq (.rg [M s17 t5,M s4 t17]) .rt) .sk)))) (.rg [Q s18 (.bn .add t8 (k6 1)),M s8 t18]))))))) (.sq (.rg [Q s4 (.mv (.c (.i .i64 (.negSucc 0))))]) .rt))) [.t s4]
theorem rc183_ok:compF Tryz.prog 183=some rc183:=by kernel_rfl
def rc184:RF:=.f 1 (.sq (.rg [Q s1 (.bx t0),Q s2 (.mv (.c .np))]) (.sq (.rg [Q s5 (.ld true 8 t1),Q s6 (.bs (.cons (i6 0) .nil) 1 [(0,1,(k6 2))]),Q s7 (.cl 65 [t5,(k6 2),t6]),M s3 t7]) (.sq (.rg [Q s8 (.ld true 8 t1),Q s9 (.bs (.cons (i6 0) (.cons (i6 0) (.cons (i6 0) .nil))) 3 [(0,1,(k6 2)),(1,1,(k6 3)),(2,1,(k6 4))]),Q s10 (.cl 65 [t8,(k6 3),t9]),M s4 t10]) (.sq (.dr [M s11 t3,M s12 t4,Q s13 (.ld true 8 t1),.q (.d s14) .no .ef (.cl 81 [t13]),Q s15 (.bs (.cons .np .nil) 1 [(0,1,t14)]),.q (.d s16) .no .ef (.cl 64 [t12,t15]),Q s17 (.bs (.cons .np .nil) 1 [(0,1,t16)]),.q (.d s18) .no .ef (.cl 124 [t11,t17]),.q (.d s19) .no (.ck 0 3) (.ld true 8 t1),.q (.d s20) .no .ef (.cl 199 [t19]),Q s21 (.bs (.cons .np .nil) 1 [(0,1,t20)]),.q (.d s22) .no .ef (.cl 64 [t18,t21]),M s2 t22]) .rt)))) [.t s2]
theorem rc184_ok:compF Tryz.prog 184=some rc184:=by kernel_rfl
def rc199:RF:=.f 1 (.sq (.rg [Q s1 (.bx t0),Q s2 (.mv (.c .np))]) (.sq (.dr [Q s7 (.ld true 8 t1),.q (.d s8) .no .ef (.cl 65 [t7,(k6 2),(.c .ns)]),.q (.d s9) .no (.ck 0 1) (.ld true 8 t1),.q (.d s10) .no .ef (.cl 91 [t9]),.q (.d s11) .no (.ck 0 2) (.ld true 8 t1),Q s12 (.fa 4 t1),.q (.d s13) .no (.ck 0 2) (L t12),.q (.d s14) .no .ef (.cl 75 [t11,t13]),M s3 t8,M s4 t10,M s5 t14]) (.sq (.dr [M s15 t4,.q (.d s16) .no .ef (.cl 174 [t15]),.q (.d s17) .no (.ck 0 1) (.ld true 8 t1),.q (.d s18) .no .ef (.cl 63 [t17]),M s19 t5,Q s20 (.bs (.cons .np (.cons .np .nil)) 2 [(0,1,t18),(1,1,t19)]),.q (.d s21) .no .ef (.cl 64 [t16,t20]),.q (.d s22) .no .ef (.cl 138 [t21]),M s6 t22]) (.sq (.rg [M s23 t3,M s24 t4,M s25 t3,Q s26 (.bs (.cons .np (.cons .np .nil)) 2 [(0,1,t24),(1,1,t25)]),Q s27 (.cl 64 [t23,t26]),M s28 t3,M s29 t6,Q s30 (.bs (.cons .np .nil) 1 [(0,1,t29)]),Q s31 (.cl 64 [t28,t30]),Q s32 (.bs (.cons .np .nil) 1 [(0,1,t31)]),Q s33 (.cl 124 [t27,t32]),M s2 t33]) .rt)))) [.t s2]
theorem rc199_ok:compF Tryz.prog 199=some rc199:=by kernel_rfl
def fsL:List (Nat × RF):=[(8,rc8),(21,rc21),(22,rc22),(23,rc23),(24,rc24),(25,rc25),(27,rc27),(31,rc31),(33,rc33),(59,rc59),(60,rc60),(61,rc61),(62,rc62),(63,rc63),(64,rc64),(65,rc65),(66,rc66),(67,rc67),(68,rc68),(69,rc69),(70,rc70),(71,rc71),(72,rc72),(73,rc73),(74,rc74),(75,rc75),(76,rc76),(77,rc77),(78,rc78),(79,rc79),(80,rc80),(81,rc81),(82,rc82),(84,rc84),(86,rc86),(87,rc87),(88,rc88),(89,rc89),(90,rc90),(91,rc91),(105,rc105),(106,rc106),(110,rc110),(111,rc111),(122,rc122),(123,rc123),(124,rc124),(138,rc138),(147,rc147),(148,rc148),(149,rc149),(150,rc150),(151,rc151),(152,rc152),(153,rc153),(154,rc154),(155,rc155),(156,rc156),(158,rc158),(159,rc159),(160,rc160),(166,rc166),(167,rc167),(174,rc174),(179,rc179),(180,rc180),(181,rc181),(182,rc182),(183,rc183),(184,rc184),(199,rc199)]
theorem fsL_ok:∀ e ∈ fsL,compF Tryz.prog e.1=some e.2:=by
 unfold fsL
 refine List.forall_mem_cons.2 ⟨rc8_ok,?_⟩
 refine List.forall_mem_cons.2 ⟨rc21_ok,?_⟩
 refine List.forall_mem_cons.2 ⟨rc22_ok,?_⟩
 refine List.forall_mem_cons.2 ⟨rc23_ok,?_⟩
 refine List.forall_mem_cons.2 ⟨rc24_ok,?_⟩
 refine List.forall_mem_cons.2 ⟨rc25_ok,?_⟩
 refine List.forall_mem_cons.2 ⟨rc27_ok,?_⟩
 refine List.forall_mem_cons.2 ⟨rc31_ok,?_⟩
 refine List.forall_mem_cons.2 ⟨rc33_ok,?_⟩
 refine List.forall_mem_cons.2 ⟨rc59_ok,?_⟩
 refine List.forall_mem_cons.2 ⟨rc60_ok,?_⟩
 refine List.forall_mem_cons.2 ⟨rc61_ok,?_⟩
 refine List.forall_mem_cons.2 ⟨rc62_ok,?_⟩
 refine List.forall_mem_cons.2 ⟨rc63_ok,?_⟩
 refine List.forall_mem_cons.2 ⟨rc64_ok,?_⟩
 refine List.forall_mem_cons.2 ⟨rc65_ok,?_⟩
 refine List.forall_mem_cons.2 ⟨rc66_ok,?_⟩
 refine List.forall_mem_cons.2 ⟨rc67_ok,?_⟩
 refine List.forall_mem_cons.2 ⟨rc68_ok,?_⟩
 refine List.forall_mem_cons.2 ⟨rc69_ok,?_⟩
 refine List.forall_mem_cons.2 ⟨rc70_ok,?_⟩
 refine List.forall_mem_cons.2 ⟨rc71_ok,?_⟩
 refine List.forall_mem_cons.2 ⟨rc72_ok,?_⟩
 refine List.forall_mem_cons.2 ⟨rc73_ok,?_⟩
 refine List.forall_mem_cons.2 ⟨rc74_ok,?_⟩
 refine List.forall_mem_cons.2 ⟨rc75_ok,?_⟩
 refine List.forall_mem_cons.2 ⟨rc76_ok,?_⟩
 refine List.forall_mem_cons.2 ⟨rc77_ok,?_⟩
 refine List.forall_mem_cons.2 ⟨rc78_ok,?_⟩
 refine List.forall_mem_cons.2 ⟨rc79_ok,?_⟩
 refine List.forall_mem_cons.2 ⟨rc80_ok,?_⟩
 refine List.forall_mem_cons.2 ⟨rc81_ok,?_⟩
 refine List.forall_mem_cons.2 ⟨rc82_ok,?_⟩
 refine List.forall_mem_cons.2 ⟨rc84_ok,?_⟩
 refine List.forall_mem_cons.2 ⟨rc86_ok,?_⟩
 refine List.forall_mem_cons.2 ⟨rc87_ok,?_⟩
 refine List.forall_mem_cons.2 ⟨rc88_ok,?_⟩
 refine List.forall_mem_cons.2 ⟨rc89_ok,?_⟩
 refine List.forall_mem_cons.2 ⟨rc90_ok,?_⟩
 refine List.forall_mem_cons.2 ⟨rc91_ok,?_⟩
 refine List.forall_mem_cons.2 ⟨rc105_ok,?_⟩
 refine List.forall_mem_cons.2 ⟨rc106_ok,?_⟩
 refine List.forall_mem_cons.2 ⟨rc110_ok,?_⟩
 refine List.forall_mem_cons.2 ⟨rc111_ok,?_⟩
 refine List.forall_mem_cons.2 ⟨rc122_ok,?_⟩
 refine List.forall_mem_cons.2 ⟨rc123_ok,?_⟩
 refine List.forall_mem_cons.2 ⟨rc124_ok,?_⟩
 refine List.forall_mem_cons.2 ⟨rc138_ok,?_⟩
 refine List.forall_mem_cons.2 ⟨rc147_ok,?_⟩
 refine List.forall_mem_cons.2 ⟨rc148_ok,?_⟩
 refine List.forall_mem_cons.2 ⟨rc149_ok,?_⟩
 refine List.forall_mem_cons.2 ⟨rc150_ok,?_⟩
 refine List.forall_mem_cons.2 ⟨rc151_ok,?_⟩
 refine List.forall_mem_cons.2 ⟨rc152_ok,?_⟩
 refine List.forall_mem_cons.2 ⟨rc153_ok,?_⟩
 refine List.forall_mem_cons.2 ⟨rc154_ok,?_⟩
 refine List.forall_mem_cons.2 ⟨rc155_ok,?_⟩
 refine List.forall_mem_cons.2 ⟨rc156_ok,?_⟩
 refine List.forall_mem_cons.2 ⟨rc158_ok,?_⟩
 refine List.forall_mem_cons.2 ⟨rc159_ok,?_⟩
 refine List.forall_mem_cons.2 ⟨rc160_ok,?_⟩
 refine List.forall_mem_cons.2 ⟨rc166_ok,?_⟩
 refine List.forall_mem_cons.2 ⟨rc167_ok,?_⟩
 refine List.forall_mem_cons.2 ⟨rc174_ok,?_⟩
 refine List.forall_mem_cons.2 ⟨rc179_ok,?_⟩
 refine List.forall_mem_cons.2 ⟨rc180_ok,?_⟩
 refine List.forall_mem_cons.2 ⟨rc181_ok,?_⟩
 refine List.forall_mem_cons.2 ⟨rc182_ok,?_⟩
 refine List.forall_mem_cons.2 ⟨rc183_ok,?_⟩
 refine List.forall_mem_cons.2 ⟨rc184_ok,?_⟩
 refine List.forall_mem_cons.2 ⟨rc199_ok,?_⟩
 exact fun _ h=>(by cases h)
end Go.Proofs.YthcnhbclagegeaaGreatDoor.txt
