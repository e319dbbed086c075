/-
  The functions that some laws reach, but for those that are told, in the evaluator's own form, and that this is what the program's text becomes. Conditions: none; these are closed facts.
-/
import Derived.Test.YthcnhbclagegeaaDoorRqM
import Derived.Test.YthcnhbclagegeaaDoorProg
namespace Go.Proofs.YthcnhbclagegeaaDoor.txtB
open Go.Rn
def s0:Pa:=.z
def s1:Pa:=(.o .z)
def s2:Pa:=(.i .z)
def s3:Pa:=(.o (.o .z))
def s4:Pa:=(.i (.o .z))
def s5:Pa:=(.o (.i .z))
def s6:Pa:=(.i (.i .z))
def s7:Pa:=(.o (.o (.o .z)))
def s8:Pa:=(.i (.o (.o .z)))
def s9:Pa:=(.o (.i (.o .z)))
def s10:Pa:=(.i (.i (.o .z)))
def s11:Pa:=(.o (.o (.i .z)))
def s12:Pa:=(.i (.o (.i .z)))
def s13:Pa:=(.o (.i (.i .z)))
def s14:Pa:=(.i (.i (.i .z)))
def s15:Pa:=(.o (.o (.o (.o .z))))
def s16:Pa:=(.i (.o (.o (.o .z))))
def s17:Pa:=(.o (.i (.o (.o .z))))
def s18:Pa:=(.i (.i (.o (.o .z))))
def s19:Pa:=(.o (.o (.i (.o .z))))
def s20:Pa:=(.i (.o (.i (.o .z))))
def s21:Pa:=(.o (.i (.i (.o .z))))
def s22:Pa:=(.i (.i (.i (.o .z))))
def s23:Pa:=(.o (.o (.o (.i .z))))
def s24:Pa:=(.i (.o (.o (.i .z))))
def s25:Pa:=(.o (.i (.o (.i .z))))
def s26:Pa:=(.i (.i (.o (.i .z))))
def s27:Pa:=(.o (.o (.i (.i .z))))
def s28:Pa:=(.i (.o (.i (.i .z))))
def s29:Pa:=(.o (.i (.i (.i .z))))
def s30:Pa:=(.i (.i (.i (.i .z))))
def s31:Pa:=(.o (.o (.o (.o (.o .z)))))
def s32:Pa:=(.i (.o (.o (.o (.o .z)))))
def s33:Pa:=(.o (.i (.o (.o (.o .z)))))
def s34:Pa:=(.i (.i (.o (.o (.o .z)))))
def s35:Pa:=(.o (.o (.i (.o (.o .z)))))
def s36:Pa:=(.i (.o (.i (.o (.o .z)))))
def s37:Pa:=(.o (.i (.i (.o (.o .z)))))
def s38:Pa:=(.i (.i (.i (.o (.o .z)))))
def s39:Pa:=(.o (.o (.o (.i (.o .z)))))
def s40:Pa:=(.i (.o (.o (.i (.o .z)))))
def s41:Pa:=(.o (.i (.o (.i (.o .z)))))
def s42:Pa:=(.i (.i (.o (.i (.o .z)))))
def s43:Pa:=(.o (.o (.i (.i (.o .z)))))
def s44:Pa:=(.i (.o (.i (.i (.o .z)))))
def s45:Pa:=(.o (.i (.i (.i (.o .z)))))
def s46:Pa:=(.i (.i (.i (.i (.o .z)))))
def s47:Pa:=(.o (.o (.o (.o (.i .z)))))
def s48:Pa:=(.i (.o (.o (.o (.i .z)))))
def s49:Pa:=(.o (.i (.o (.o (.i .z)))))
def s50:Pa:=(.i (.i (.o (.o (.i .z)))))
def s51:Pa:=(.o (.o (.i (.o (.i .z)))))
def s52:Pa:=(.i (.o (.i (.o (.i .z)))))
def s53:Pa:=(.o (.i (.i (.o (.i .z)))))
def s54:Pa:=(.i (.i (.i (.o (.i .z)))))
def s55:Pa:=(.o (.o (.o (.i (.i .z)))))
def s56:Pa:=(.i (.o (.o (.i (.i .z)))))
def s57:Pa:=(.o (.i (.o (.i (.i .z)))))
def s58:Pa:=(.i (.i (.o (.i (.i .z)))))
def s59:Pa:=(.o (.o (.i (.i (.i .z)))))
def s60:Pa:=(.i (.o (.i (.i (.i .z)))))
def s61:Pa:=(.o (.i (.i (.i (.i .z)))))
def s62:Pa:=(.i (.i (.i (.i (.i .z)))))
def s63:Pa:=(.o (.o (.o (.o (.o (.o .z))))))
def s64:Pa:=(.i (.o (.o (.o (.o (.o .z))))))
def s65:Pa:=(.o (.i (.o (.o (.o (.o .z))))))
def s66:Pa:=(.i (.i (.o (.o (.o (.o .z))))))
def s67:Pa:=(.o (.o (.i (.o (.o (.o .z))))))
def t0:RO:=.t s0
def t1:RO:=.t s1
def t2:RO:=.t s2
def t3:RO:=.t s3
def t4:RO:=.t s4
def t5:RO:=.t s5
def t6:RO:=.t s6
def t7:RO:=.t s7
def t8:RO:=.t s8
def t9:RO:=.t s9
def t10:RO:=.t s10
def t11:RO:=.t s11
def t12:RO:=.t s12
def t13:RO:=.t s13
def t14:RO:=.t s14
def t15:RO:=.t s15
def t16:RO:=.t s16
def t17:RO:=.t s17
def t18:RO:=.t s18
def t19:RO:=.t s19
def t20:RO:=.t s20
def t21:RO:=.t s21
def t22:RO:=.t s22
def t23:RO:=.t s23
def t24:RO:=.t s24
def t25:RO:=.t s25
def t26:RO:=.t s26
def t27:RO:=.t s27
def t28:RO:=.t s28
def t29:RO:=.t s29
def t30:RO:=.t s30
def t31:RO:=.t s31
def t32:RO:=.t s32
def t33:RO:=.t s33
def t34:RO:=.t s34
def t35:RO:=.t s35
def t36:RO:=.t s36
def t37:RO:=.t s37
def t38:RO:=.t s38
def t39:RO:=.t s39
def t40:RO:=.t s40
def t41:RO:=.t s41
def t42:RO:=.t s42
def t43:RO:=.t s43
def t44:RO:=.t s44
def t45:RO:=.t s45
def t46:RO:=.t s46
def t47:RO:=.t s47
def t48:RO:=.t s48
def t49:RO:=.t s49
def t50:RO:=.t s50
def t51:RO:=.t s51
def t52:RO:=.t s52
def t53:RO:=.t s53
def t54:RO:=.t s54
def t55:RO:=.t s55
def t56:RO:=.t s56
def t57:RO:=.t s57
def t58:RO:=.t s58
def t59:RO:=.t s59
def t60:RO:=.t s60
def t61:RO:=.t s61
def t62:RO:=.t s62
def t63:RO:=.t s63
def t64:RO:=.t s64
def t65:RO:=.t s65
def t66:RO:=.t s66
def t67:RO:=.t s67
abbrev Q (d:Pa) (o:RP):RQ:=.q (.d d) .no .nm o
abbrev L (x:RO):RP:=.ld false 1 x
abbrev Z (o:RP):RQ:=.q .no .no .nm o
abbrev oq1 (d g:Pa) (o:RP):RQ:=.q (.d d) (.g g true) .nm o
abbrev oq2 (d g:Pa) (o:RP):RQ:=.q (.d d) (.g g false) .nm o
abbrev M (d:Pa) (x:RO):RQ:=.q (.d d) .no .nm (.mv x)
abbrev om1 (d g:Pa) (x:RO):RQ:=.q (.d d) (.g g true) .nm (.mv x)
abbrev i6 (n:Nat):RV:=.i .i64 (.ofNat n)
abbrev k6 (n:Nat):RO:=.c (.i .i64 (.ofNat n))
abbrev kT:RO:=.c (.b true)
abbrev kF:RO:=.c (.b false)
def rc19:RF:=.f 2 (.sq (.rg [Q s2 (.bx t0),Q s4 (.mv kF)]) (.sq (.dr [Q s7 (.fa 1 t2),Q s8 (L t7),Q s9 (.ln false t8),M s10 t1,.q (.d s11) .no .ef (.cl 20 [t9,t10]),Q s12 (.fa 1 t2),.q (.d s13) .no (.ck 0 1) (L t12),Q s14 (.ln false t13),M s15 t1,.q (.d s16) .no .ef (.cl 48 [t14,t15]),M s5 t11,M s6 t16]) (.sq (.dr [Q s17 (.ld true 8 t2),.q (.d s18) .no .ef (.cl 45 [t17]),.q (.d s19) .no (.ck 0 1) (.ld true 8 t2),.q (.d s20) .no .ef (.cl 50 [t19]),.q (.d s21) .no .ef (.cl 49 [t18,t20]),M s22 t21,oq1 s23 s22 (.ld true 8 t2),.q (.d s24) (.g s22 true) .ef (.cl 51 [t23]),.q (.d s25) (.g s22 true) (.ck 3 4) (.ld true 8 t2),.q (.d s26) (.g s22 true) .ef (.cl 52 [t25]),.q (.d s27) (.g s22 true) .ef (.cl 49 [t24,t26]),Q s28 (.pick t22 t27 kF),M s29 t28,oq1 s30 s29 (.ld true 8 t2),.q (.d s31) (.g s29 true) .ef (.cl 47 [t30]),.q (.d s32) (.g s29 true) (.ck 6 7) (.ld true 8 t2),.q (.d s33) (.g s29 true) .ef (.cl 53 [t32]),.q (.d s34) (.g s29 true) .ef (.cl 49 [t31,t33]),Q s35 (.pick t29 t34 kF),M s36 t35,oq1 s37 s36 (.ld true 8 t2),.q (.d s38) (.g s36 true) .ef (.cl 24 [t37]),.q (.d s39) (.g s36 true) (.ck 9 10) (.ld true 8 t2),.q (.d s40) (.g s36 true) .ef (.cl 54 [t39]),.q (.d s41) (.g s36 true) .ef (.cl 49 [t38,t40]),Q s42 (.pick t36 t41 kF),M s43 t42,oq1 s44 s43 (.ld true 8 t2),.q (.d s45) (.g s43 true) .ef (.cl 23 [t44]),.q (.d s46) (.g s43 true) (.ck 12 13) (.ld true 8 t2),.q (.d s47) (.g s43 true) .ef (.cl 55 [t46]),.q (.d s48) (.g s43 true) .ef (.cl 49 [t45,t47]),Q s49 (.pick t43 t48 kF),M s50 t49,oq1 s51 s50 (.ld true 8 t2),om1 s52 s50 t5,.q (.d s53) (.g s50 true) .ef (.cl 21 [t51,t52]),.q (.d s54) (.g s50 true) (.ck 15 16) (.ld true 8 t2),om1 s55 s50 t6,.q (.d s56) (.g s50 true) .ef (.cl 56 [t54,t55]),.q (.d s57) (.g s50 true) .ef (.cl 49 [t53,t56]),Q s58 (.pick t50 t57 kF),M s59 t58,oq1 s60 s59 (.ld true 8 t2),om1 s61 s59 t5,.q (.d s62) (.g s59 true) .ef (.cl 22 [t60,t61]),.q (.d s63) (.g s59 true) (.ck 18 19) (.ld true 8 t2),om1 s64 s59 t6,.q (.d s65) (.g s59 true) .ef (.cl 57 [t63,t64]),.q (.d s66) (.g s59 true) .ef (.cl 49 [t62,t65]),Q s67 (.pick t59 t66 kF),M s4 t67]) .rt))) [.t s4]
theorem rc19_ok:compF Tryd.prog 19=some rc19:=by kernel_rfl
def rc22:RF:=.f 2 (.sq (.rg [Q s2 (.bx t0),Q s4 (.mv (.c .np))]) (.sq (.rg [M s5 t1,Q s6 (.ld true 8 t2),M s7 t1,Q s8 (.cl 21 [t6,t7]),Q s9 (.cl 61 [t5,t8]),M s4 t9]) .rt)) [.t s4]
theorem rc22_ok:compF Tryd.prog 22=some rc22:=by kernel_rfl
def rc24:RF:=.f 1 (.sq (.rg [Q s1 (.bx t0),Q s2 (.mv (.c .np))]) (.sq (.rg [Q s7 (.ld true 8 t1),Q s8 (.cl 29 [t7,(.c .ns)]),M s3 t8]) (.sq (.rg [Q s9 (.cl 63 []),M s4 t9]) (.sq (.sq (.rg [Q s10 (.bd (.cons (.s []) (.cons (.s []) (.cons (.s []) .nil))) [(0,1,(.c (.s [114,102]))),(1,1,(.c (.s [99,111]))),(2,1,(.c (.s [102,114])))]),Q s11 (.mv (k6 0))]) (.bl 0 (.lp (.sq (.rg [Q s12 (.bn .lss t11 (k6 3))]) (.sq (.cd t12 .sk (.ex 0)) (.sq (.bl 1 (.sq (.rg [Q s13 (.ix false 3 1 t10 t11),M s6 t13]) (.rg [M s14 t3,M s15 t4,M s16 t6,Q s17 (.ml 2 .nf false t15 t16),Q s18 (.ld true 8 t1),Q s19 (.cf t17 [t18]),Q s20 (.cl 37 [t14,t19]),M s3 t20]))) (.rg [Q s21 (.bn .add t11 (k6 1)),M s11 t21]))))))) (.sq (.rg [M s22 t3,Q s23 (.cl 13 [t22]),M s2 t23]) .rt))))) [.t s2]
theorem rc24_ok:compF Tryd.prog 24=some rc24:=by kernel_rfl
def rc26:RF:=.f 1 (.sq (.rg [Q s1 (.bx t0),Q s2 (.mv kF)]) (.sq (.dr [Q s3 (.ld true 8 t1),.q (.d s4) .no .ef (.cl 68 [t3]),.q (.d s5) .no (.ck 0 1) (.ld true 8 t1),.q (.d s6) .no .ef (.cl 70 [t5]),.q (.d s7) .no .ef (.cl 69 [t4,t6]),M s8 t7,oq1 s9 s8 (.ld true 8 t1),.q (.d s10) (.g s8 true) .ef (.cl 67 [t9]),.q (.d s11) (.g s8 true) (.ck 3 4) (.ld true 8 t1),.q (.d s12) (.g s8 true) .ef (.cl 71 [t11]),.q (.d s13) (.g s8 true) .ef (.cl 69 [t10,t12]),Q s14 (.pick t8 t13 kF),M s15 t14,oq1 s16 s15 (.ld true 8 t1),.q (.d s17) (.g s15 true) .ef (.cl 65 [t16]),.q (.d s18) (.g s15 true) (.ck 6 7) (.ld true 8 t1),.q (.d s19) (.g s15 true) .ef (.cl 72 [t18]),.q (.d s20) (.g s15 true) .ef (.cl 69 [t17,t19]),Q s21 (.pick t15 t20 kF),M s22 t21,oq1 s23 s22 (.ld true 8 t1),.q (.d s24) (.g s22 true) .ef (.cl 66 [t23]),.q (.d s25) (.g s22 true) (.ck 9 10) (.ld true 8 t1),.q (.d s26) (.g s22 true) .ef (.cl 73 [t25]),.q (.d s27) (.g s22 true) .ef (.cl 69 [t24,t26]),Q s28 (.pick t22 t27 kF),M s2 t28]) .rt)) [.t s2]
theorem rc26_ok:compF Tryd.prog 26=some rc26:=by kernel_rfl
def rc29:RF:=.f 2 (.sq (.rg [Q s2 (.bx t0),Q s4 (.mv (.c .np))]) (.sq (.rg [Q s5 (.fa 1 t2),Q s6 (L t5),Q s7 (.ln false t6),M s8 t1,Q s9 (.cl 20 [t7,t8]),M s4 t9]) .rt)) [.t s4]
theorem rc29_ok:compF Tryd.prog 29=some rc29:=by kernel_rfl
def rc45:RF:=.f 1 (.sq (.rg [Q s1 (.bx t0),Q s2 (.mv (.c .np))]) (.sq (.dr [.q (.d s3) .no .ef (.cl 63 []),.q (.d s4) .no .ef (.ml 2 .nf false t3 (.c (.s [114,102]))),.q (.d s5) .no (.ck 0 2) (.ld true 8 t1),.q (.d s6) .no .ef (.cf t4 [t5]),M s2 t6]) .rt)) [.t s2]
theorem rc45_ok:compF Tryd.prog 45=some rc45:=by kernel_rfl
def rc47:RF:=.f 1 (.sq (.rg [Q s1 (.bx t0),Q s2 (.mv (.c .np))]) (.sq (.dr [.q (.d s3) .no .ef (.cl 63 []),.q (.d s4) .no .ef (.ml 2 .nf false t3 (.c (.s [102,114]))),.q (.d s5) .no (.ck 0 2) (.ld true 8 t1),.q (.d s6) .no .ef (.cf t4 [t5]),M s2 t6]) .rt)) [.t s2]
theorem rc47_ok:compF Tryd.prog 47=some rc47:=by kernel_rfl
def rc51:RF:=.f 1 (.sq (.rg [Q s1 (.bx t0),Q s2 (.mv (.c .np))]) (.sq (.dr [.q (.d s3) .no .ef (.cl 63 []),.q (.d s4) .no .ef (.ml 2 .nf false t3 (.c (.s [99,111]))),.q (.d s5) .no (.ck 0 2) (.ld true 8 t1),.q (.d s6) .no .ef (.cf t4 [t5]),M s2 t6]) .rt)) [.t s2]
theorem rc51_ok:compF Tryd.prog 51=some rc51:=by kernel_rfl
def rc53:RF:=.f 1 (.sq (.rg [Q s1 (.bx t0),Q s2 (.mv (.c .np))]) (.sq (.dr [Q s3 (.ld true 8 t1),.q (.d s4) .no .ef (.cl 50 [t3]),.q (.d s5) .no .ef (.cl 97 [t4]),.q (.d s6) .no (.ck 0 2) (.ld true 8 t1),.q (.d s7) .no .ef (.cl 52 [t6]),.q (.d s8) .no .ef (.cl 98 [t5,t7]),M s2 t8]) .rt)) [.t s2]
theorem rc53_ok:compF Tryd.prog 53=some rc53:=by kernel_rfl
def rc54:RF:=.f 1 (.sq (.rg [Q s1 (.bx t0),Q s2 (.mv (.c .np))]) (.sq (.rg [Q s3 (.ld true 8 t1),Q s4 (.cl 99 [t3]),Q s5 (.cl 100 [t4]),M s2 t5]) .rt)) [.t s2]
theorem rc54_ok:compF Tryd.prog 54=some rc54:=by kernel_rfl
def rc56:RF:=.f 2 (.sq (.rg [Q s2 (.bx t0),Q s4 (.mv (.c .np))]) (.sq (.rg [Q s5 (.ld true 8 t2),M s6 t1,Q s7 (.cl 102 [t5,t6,kT]),M s4 t7]) .rt)) [.t s4]
theorem rc56_ok:compF Tryd.prog 56=some rc56:=by kernel_rfl
def rc57:RF:=.f 2 (.sq (.rg [Q s2 (.bx t0),Q s4 (.mv (.c .np))]) (.sq (.rg [Q s5 (.ld true 8 t2),M s6 t1,Q s7 (.cl 102 [t5,t6,kF]),M s4 t7]) .rt)) [.t s4]
theorem rc57_ok:compF Tryd.prog 57=some rc57:=by kernel_rfl
def rc63:RF:=.f 0 (.sq (.rg [Q s0 (.mv (.c (.fn 33554432 (.cons (.b true) .nil))))]) (.sq (.rg [Q s1 (.mk),Z (.mi 2 t1 (.c (.s [114,102])) (.c (.fn 104 .nil))),Z (.mi 2 t1 (.c (.s [99,111])) (.c (.fn 105 .nil))),Z (.mi 2 t1 (.c (.s [102,114])) (.c (.fn 106 .nil))),M s2 t1,M s0 t2]) .rt)) [.t s0]
theorem rc63_ok:compF Tryd.prog 63=some rc63:=by kernel_rfl
def rc65:RF:=.f 1 (.sq (.rg [Q s1 (.bx t0),Q s2 (.mv (.c .np))]) (.sq (.rg [Q s7 (.ld true 8 t1),Q s8 (.cl 45 [t7]),M s3 t8]) (.sq (.dr [Q s9 (.ld true 8 t1),M s10 t3,.q (.d s11) .no .ef (.cl 21 [t9,t10]),.q (.d s12) .no (.ck 0 1) (.ld true 8 t1),.q (.d s13) .no .ef (.cl 23 [t12]),.q (.d s14) .no .ef (.cl 110 [t13]),.q (.d s15) .no (.ck 0 3) (.ld true 8 t1),M s16 t3,.q (.d s17) .no .ef (.cl 22 [t15,t16]),Q s18 (.bs (.cons .np .nil) 1 [(0,1,t17)]),.q (.d s19) .no .ef (.cl 109 [t14,t18]),Q s20 (.bs (.cons .np .nil) 1 [(0,1,t19)]),.q (.d s21) .no .ef (.cl 108 [t11,t20]),M s4 t21]) (.sq (.rg [Q s22 (.ld true 8 t1),Q s23 (.bs (.cons (i6 0) .nil) 1 [(0,1,(k6 1))]),Q s24 (.cl 111 [t22,(k6 1),t23]),M s5 t24]) (.sq (.rg [Q s25 (.ld true 8 t1),Q s26 (.bs (.cons (i6 0) (.cons (i6 0) (.cons (i6 0) .nil))) 3 [(0,1,(k6 1)),(1,1,(k6 3)),(2,1,(k6 4))]),Q s27 (.cl 111 [t25,(k6 3),t26]),M s6 t27]) (.sq (.dr [Q s28 (.ld true 8 t1),.q (.d s29) .no .ef (.cl 67 [t28]),M s30 t4,M s31 t5,.q (.d s32) .no (.ck 0 1) (.ld true 8 t1),.q (.d s33) .no .ef (.cl 9 [t32]),M s34 t6,Q s35 (.bs (.cons .np .nil) 1 [(0,1,t34)]),.q (.d s36) .no .ef (.cl 109 [t33,t35]),Q s37 (.bs (.cons .np .nil) 1 [(0,1,t36)]),.q (.d s38) .no .ef (.cl 108 [t31,t37]),Q s39 (.bs (.cons .np (.cons .np .nil)) 2 [(0,1,t30),(1,1,t38)]),.q (.d s40) .no .ef (.cl 109 [t29,t39]),M s2 t40]) .rt)))))) [.t s2]
theorem rc65_ok:compF Tryd.prog 65=some rc65:=by kernel_rfl
def rc66:RF:=.f 1 (.sq (.rg [Q s1 (.bx t0),Q s2 (.mv (.c .np))]) (.sq (.dr [Q s3 (.ld true 8 t1),.q (.d s4) .no .ef (.cl 9 [t3]),.q (.d s5) .no (.ck 0 1) (.ld true 8 t1),.q (.d s6) .no .ef (.cl 65 [t5]),Q s7 (.bs (.cons .np .nil) 1 [(0,1,t6)]),.q (.d s8) .no .ef (.cl 108 [t4,t7]),.q (.d s9) .no .ef (.cl 13 [t8]),M s2 t9]) .rt)) [.t s2]
theorem rc66_ok:compF Tryd.prog 66=some rc66:=by kernel_rfl
def rc67:RF:=.f 1 (.sq (.rg [Q s1 (.bx t0),Q s2 (.mv (.c .np))]) (.sq (.rg [Q s5 (.ld true 8 t1),Q s6 (.bs (.cons (i6 0) .nil) 1 [(0,1,(k6 2))]),Q s7 (.cl 111 [t5,(k6 2),t6]),M s3 t7]) (.sq (.rg [Q s8 (.ld true 8 t1),Q s9 (.bs (.cons (i6 0) (.cons (i6 0) (.cons (i6 0) .nil))) 3 [(0,1,(k6 2)),(1,1,(k6 3)),(2,1,(k6 4))]),Q s10 (.cl 111 [t8,(k6 3),t9]),M s4 t10]) (.sq (.dr [M s11 t3,M s12 t4,Q s13 (.ld true 8 t1),.q (.d s14) .no .ef (.cl 9 [t13]),Q s15 (.bs (.cons .np .nil) 1 [(0,1,t14)]),.q (.d s16) .no .ef (.cl 109 [t12,t15]),Q s17 (.bs (.cons .np .nil) 1 [(0,1,t16)]),.q (.d s18) .no .ef (.cl 108 [t11,t17]),.q (.d s19) .no (.ck 0 3) (.ld true 8 t1),.q (.d s20) .no .ef (.cl 68 [t19]),Q s21 (.bs (.cons .np .nil) 1 [(0,1,t20)]),.q (.d s22) .no .ef (.cl 109 [t18,t21]),M s2 t22]) .rt)))) [.t s2]
theorem rc67_ok:compF Tryd.prog 67=some rc67:=by kernel_rfl
def rc68:RF:=.f 1 (.sq (.rg [Q s1 (.bx t0),Q s2 (.mv (.c .np))]) (.sq (.dr [Q s7 (.ld true 8 t1),.q (.d s8) .no .ef (.cl 111 [t7,(k6 2),(.c .ns)]),.q (.d s9) .no (.ck 0 1) (.ld true 8 t1),.q (.d s10) .no .ef (.cl 23 [t9]),.q (.d s11) .no (.ck 0 2) (.ld true 8 t1),Q s12 (.fa 4 t1),.q (.d s13) .no (.ck 0 2) (L t12),.q (.d s14) .no .ef (.cl 29 [t11,t13]),M s3 t8,M s4 t10,M s5 t14]) (.sq (.dr [M s15 t4,.q (.d s16) .no .ef (.cl 110 [t15]),.q (.d s17) .no (.ck 0 1) (.ld true 8 t1),.q (.d s18) .no .ef (.cl 45 [t17]),M s19 t5,Q s20 (.bs (.cons .np (.cons .np .nil)) 2 [(0,1,t18),(1,1,t19)]),.q (.d s21) .no .ef (.cl 109 [t16,t20]),.q (.d s22) .no .ef (.cl 112 [t21]),M s6 t22]) (.sq (.rg [M s23 t3,M s24 t4,M s25 t3,Q s26 (.bs (.cons .np (.cons .np .nil)) 2 [(0,1,t24),(1,1,t25)]),Q s27 (.cl 109 [t23,t26]),M s28 t3,M s29 t6,Q s30 (.bs (.cons .np .nil) 1 [(0,1,t29)]),Q s31 (.cl 109 [t28,t30]),Q s32 (.bs (.cons .np .nil) 1 [(0,1,t31)]),Q s33 (.cl 108 [t27,t32]),M s2 t33]) .rt)))) [.t s2]
theorem rc68_ok:compF Tryd.prog 68=some rc68:=by kernel_rfl
def rc70:RF:=.f 1 (.sq (.rg [Q s1 (.bx t0),Q s2 (.mv (.c .np))]) (.sq (.dr [Q s6 (.ld true 8 t1),.q (.d s7) .no .ef (.cl 113 [t6]),.q (.d s8) .no (.ck 0 1) (.ld true 8 t1),.q (.d s9) .no .ef (.cl 55 [t8]),M s3 t7,M s4 t9]) (.sq (.dr [M s10 t4,.q (.d s11) .no .ef (.cl 114 [t10]),.q (.d s12) .no (.ck 0 1) (.ld true 8 t1),.q (.d s13) .no .ef (.cl 50 [t12]),.q (.d s14) .no .ef (.cl 98 [t11,t13]),.q (.d s15) .no (.ck 0 3) (.ld true 8 t1),Q s16 (.fa 4 t1),.q (.d s17) .no (.ck 0 3) (L t16),.q (.d s18) .no .ef (.cl 115 [t15,t17]),.q (.d s19) .no .ef (.cl 98 [t14,t18]),M s5 t19]) (.sq (.rg [M s20 t3,M s21 t4,Q s22 (.cl 98 [t20,t21]),M s23 t3,Q s24 (.cl 98 [t22,t23]),M s25 t3,M s26 t5,Q s27 (.cl 117 [t26]),Q s28 (.cl 98 [t25,t27]),Q s29 (.cl 116 [t24,t28]),M s2 t29]) .rt)))) [.t s2]
theorem rc70_ok:compF Tryd.prog 70=some rc70:=by kernel_rfl
def rc71:RF:=.f 1 (.sq (.rg [Q s1 (.bx t0),Q s2 (.mv (.c .np))]) (.sq (.dr [Q s3 (.ld true 8 t1),.q (.d s4) .no .ef (.cl 118 [t3]),.q (.d s5) .no (.ck 0 1) (.ld true 8 t1),.q (.d s6) .no .ef (.cl 119 [t5]),.q (.d s7) .no (.ck 0 2) (.ld true 8 t1),.q (.d s8) .no .ef (.cl 101 [t7]),.q (.d s9) .no .ef (.cl 98 [t6,t8]),.q (.d s10) .no .ef (.cl 116 [t4,t9]),.q (.d s11) .no (.ck 0 5) (.ld true 8 t1),.q (.d s12) .no .ef (.cl 70 [t11]),.q (.d s13) .no .ef (.cl 98 [t10,t12]),M s2 t13]) .rt)) [.t s2]
theorem rc71_ok:compF Tryd.prog 71=some rc71:=by kernel_rfl
def rc72:RF:=.f 1 (.sq (.rg [Q s1 (.bx t0),Q s2 (.mv (.c .np))]) (.sq (.rg [Q s5 (.ld true 8 t1),Q s6 (.cl 50 [t5]),M s3 t6]) (.sq (.dr [Q s7 (.ld true 8 t1),M s8 t3,.q (.d s9) .no .ef (.cl 56 [t7,t8]),.q (.d s10) .no (.ck 0 1) (.ld true 8 t1),.q (.d s11) .no .ef (.cl 55 [t10]),.q (.d s12) .no .ef (.cl 114 [t11]),.q (.d s13) .no (.ck 0 3) (.ld true 8 t1),M s14 t3,.q (.d s15) .no .ef (.cl 57 [t13,t14]),.q (.d s16) .no .ef (.cl 98 [t12,t15]),.q (.d s17) .no .ef (.cl 116 [t9,t16]),M s4 t17]) (.sq (.dr [Q s18 (.ld true 8 t1),.q (.d s19) .no .ef (.cl 71 [t18]),M s20 t4,.q (.d s21) .no .ef (.cl 98 [t19,t20]),.q (.d s22) .no (.ck 0 2) (.ld true 8 t1),.q (.d s23) .no .ef (.cl 120 [t22]),.q (.d s24) .no (.ck 0 3) (.ld true 8 t1),.q (.d s25) .no .ef (.cl 101 [t24]),.q (.d s26) .no (.ck 0 4) (.ld true 8 t1),.q (.d s27) .no .ef (.cl 121 [t26]),.q (.d s28) .no .ef (.cl 98 [t25,t27]),.q (.d s29) .no .ef (.cl 116 [t23,t28]),.q (.d s30) .no .ef (.cl 98 [t21,t29]),M s2 t30]) .rt)))) [.t s2]
theorem rc72_ok:compF Tryd.prog 72=some rc72:=by kernel_rfl
def rc73:RF:=.f 1 (.sq (.rg [Q s1 (.bx t0),Q s2 (.mv (.c .np))]) (.sq (.dr [Q s3 (.ld true 8 t1),.q (.d s4) .no .ef (.cl 101 [t3]),.q (.d s5) .no (.ck 0 1) (.ld true 8 t1),.q (.d s6) .no .ef (.cl 72 [t5]),.q (.d s7) .no .ef (.cl 116 [t4,t6]),.q (.d s8) .no .ef (.cl 100 [t7]),M s2 t8]) .rt)) [.t s2]
theorem rc73_ok:compF Tryd.prog 73=some rc73:=by kernel_rfl
def rc99:RF:=.f 1 (.sq (.rg [Q s1 (.bx t0),Q s2 (.mv (.c .np))]) (.sq (.dr [Q s3 (.ld true 8 t1),.q (.d s4) .no .ef (.cl 50 [t3]),.q (.d s5) .no (.ck 0 1) (.ld true 8 t1),.q (.d s6) .no .ef (.cl 52 [t5]),.q (.d s7) .no .ef (.cl 116 [t4,t6]),.q (.d s8) .no (.ck 0 3) (.ld true 8 t1),.q (.d s9) .no .ef (.cl 53 [t8]),.q (.d s10) .no .ef (.cl 116 [t7,t9]),M s2 t10]) .rt)) [.t s2]
theorem rc99_ok:compF Tryd.prog 99=some rc99:=by kernel_rfl
def rc106:RF:=.f 1 (.sq (.rg [Q s1 (.bx t0),Q s2 (.mv (.c .np))]) (.sq (.dr [Q s3 (.ld true 8 t1),.q (.d s4) .no .ef (.cl 104 [t3]),.q (.d s5) .no .ef (.cl 107 [t4]),.q (.d s6) .no (.ck 0 2) (.ld true 8 t1),.q (.d s7) .no .ef (.cl 105 [t6]),.q (.d s8) .no .ef (.cl 38 [t5,t7]),M s2 t8]) .rt)) [.t s2]
theorem rc106_ok:compF Tryd.prog 106=some rc106:=by kernel_rfl
def rc108:RF:=.f 2 (.sq (.rg [Q s4 (.mv (.c .np))]) (.sq (.sq (.rg [M s7 t1,Q s8 (.ln false t7),Q s9 (.mv (k6 0))]) (.bl 0 (.lp (.sq (.rg [Q s10 (.bn .lss t9 t8)]) (.sq (.cd t10 .sk (.ex 0)) (.sq (.bl 1 (.sq (.rg [Q s11 (.ia 1 t7 t9),Q s12 (L t11),M s6 t12]) (.rg [M s13 t0,M s14 t6,Q s15 (.cl 37 [t13,t14]),M s0 t15]))) (.rg [Q s16 (.bn .add t9 (k6 1)),M s9 t16]))))))) (.sq (.rg [M s17 t0,M s4 t17]) .rt))) [.t s4]
theorem rc108_ok:compF Tryd.prog 108=some rc108:=by kernel_rfl
def rc109:RF:=.f 2 (.sq (.rg [Q s4 (.mv (.c .np))]) (.sq (.sq (.rg [M s7 t1,Q s8 (.ln false t7),Q s9 (.mv (k6 0))]) (.bl 0 (.lp (.sq (.rg [Q s10 (.bn .lss t9 t8)]) (.sq (.cd t10 .sk (.ex 0)) (.sq (.bl 1 (.sq (.rg [Q s11 (.ia 1 t7 t9),Q s12 (L t11),M s6 t12]) (.rg [M s13 t0,M s14 t6,Q s15 (.cl 38 [t13,t14]),M s0 t15]))) (.rg [Q s16 (.bn .add t9 (k6 1)),M s9 t16]))))))) (.sq (.rg [M s17 t0,M s4 t17]) .rt))) [.t s4]
theorem rc109_ok:compF Tryd.prog 109=some rc109:=by kernel_rfl
def rc112:RF:=.f 1 (.sq (.rg [Q s2 (.mv (.c .np))]) (.sq (.rg [M s3 t0,Q s4 (.cl 13 [t3]),Q s5 (.cl 110 [t4]),M s2 t5]) .rt)) [.t s2]
theorem rc112_ok:compF Tryd.prog 112=some rc112:=by kernel_rfl
def rc113:RF:=.f 1 (.sq (.rg [Q s1 (.bx t0),Q s2 (.mv (.c .np))]) (.sq (.rg [Q s3 (.ld true 8 t1),Q s4 (.cl 129 [t3,(k6 2),(k6 0),(k6 2)]),M s2 t4]) .rt)) [.t s2]
theorem rc113_ok:compF Tryd.prog 113=some rc113:=by kernel_rfl
def rc115:RF:=.f 2 (.sq (.rg [Q s2 (.bx t0),Q s4 (.mv (.c .np))]) (.sq (.rg [Q s5 (.fa 1 t2),Q s6 (L t5),Q s7 (.ln false t6),M s8 t1,Q s9 (.cl 48 [t7,t8]),M s4 t9]) .rt)) [.t s4]
theorem rc115_ok:compF Tryd.prog 115=some rc115:=by kernel_rfl
def rc117:RF:=.f 1 (.sq (.rg [Q s2 (.mv (.c .np))]) (.sq (.rg [M s3 t0,Q s4 (.cl 100 [t3]),Q s5 (.cl 114 [t4]),M s2 t5]) .rt)) [.t s2]
theorem rc117_ok:compF Tryd.prog 117=some rc117:=by kernel_rfl
def rc118:RF:=.f 1 (.sq (.rg [Q s1 (.bx t0),Q s2 (.mv (.c .np))]) (.sq (.rg [Q s3 (.ld true 8 t1),Q s4 (.cl 129 [t3,(k6 2),(k6 2),(k6 2)]),M s2 t4]) .rt)) [.t s2]
theorem rc118_ok:compF Tryd.prog 118=some rc118:=by kernel_rfl
def rc119:RF:=.f 1 (.sq (.rg [Q s1 (.bx t0),Q s2 (.mv (.c .np))]) (.sq (.rg [Q s3 (.ld true 8 t1),Q s4 (.cl 129 [t3,(k6 3),(k6 2),(k6 4)]),M s2 t4]) .rt)) [.t s2]
theorem rc119_ok:compF Tryd.prog 119=some rc119:=by kernel_rfl
def rc120:RF:=.f 1 (.sq (.rg [Q s1 (.bx t0),Q s2 (.mv (.c .np))]) (.sq (.rg [Q s3 (.ld true 8 t1),Q s4 (.cl 129 [t3,(k6 1),(k6 1),(k6 1)]),M s2 t4]) .rt)) [.t s2]
theorem rc120_ok:compF Tryd.prog 120=some rc120:=by kernel_rfl
def rc121:RF:=.f 1 (.sq (.rg [Q s1 (.bx t0),Q s2 (.mv (.c .np))]) (.sq (.dr [Q s3 (.ld true 8 t1),.q (.d s4) .no .ef (.cl 129 [t3,(k6 3),(k6 1),(k6 1)]),.q (.d s5) .no (.ck 0 1) (.ld true 8 t1),.q (.d s6) .no .ef (.cl 129 [t5,(k6 3),(k6 3),(k6 4)]),.q (.d s7) .no .ef (.cl 116 [t4,t6]),M s2 t7]) .rt)) [.t s2]
theorem rc121_ok:compF Tryd.prog 121=some rc121:=by kernel_rfl
def fsL:List (Nat × RF):=[(19,rc19),(22,rc22),(24,rc24),(26,rc26),(29,rc29),(45,rc45),(47,rc47),(51,rc51),(53,rc53),(54,rc54),(56,rc56),(57,rc57),(63,rc63),(65,rc65),(66,rc66),(67,rc67),(68,rc68),(70,rc70),(71,rc71),(72,rc72),(73,rc73),(99,rc99),(106,rc106),(108,rc108),(109,rc109),(112,rc112),(113,rc113),(115,rc115),(117,rc117),(118,rc118),(119,rc119),(120,rc120),(121,rc121)]
theorem fsL_ok:∀ e ∈ fsL,compF Tryd.prog e.1=some e.2:=by
 unfold fsL
 refine List.forall_mem_cons.2 ⟨rc19_ok,?_⟩
 refine List.forall_mem_cons.2 ⟨rc22_ok,?_⟩
 refine List.forall_mem_cons.2 ⟨rc24_ok,?_⟩
 refine List.forall_mem_cons.2 ⟨rc26_ok,?_⟩
 refine List.forall_mem_cons.2 ⟨rc29_ok,?_⟩
 refine List.forall_mem_cons.2 ⟨rc45_ok,?_⟩
 refine List.forall_mem_cons.2 ⟨rc47_ok,?_⟩
 refine List.forall_mem_cons.2 ⟨rc51_ok,?_⟩
 refine List.forall_mem_cons.2 ⟨rc53_ok,?_⟩
 refine List.forall_mem_cons.2 ⟨rc54_ok,?_⟩
 refine List.forall_mem_cons.2 ⟨rc56_ok,?_⟩
 refine List.forall_mem_cons.2 ⟨rc57_ok,?_⟩
 refine List.forall_mem_cons.2 ⟨rc63_ok,?_⟩
 refine List.forall_mem_cons.2 ⟨rc65_ok,?_⟩
 refine List.forall_mem_cons.2 ⟨rc66_ok,?_⟩
 refine List.forall_mem_cons.2 ⟨rc67_ok,?_⟩
 refine List.forall_mem_cons.2 ⟨rc68_ok,?_⟩
 refine List.forall_mem_cons.2 ⟨rc70_ok,?_⟩
 refine List.forall_mem_cons.2 ⟨rc71_ok,?_⟩
 refine List.forall_mem_cons.2 ⟨rc72_ok,?_⟩
 refine List.forall_mem_cons.2 ⟨rc73_ok,?_⟩
 refine List.forall_mem_cons.2 ⟨rc99_ok,?_⟩
 refine List.forall_mem_cons.2 ⟨rc106_ok,?_⟩
 refine List.forall_mem_cons.2 ⟨rc108_ok,?_⟩
 refine List.forall_mem_cons.2 ⟨rc109_ok,?_⟩
 refine List.forall_mem_cons.2 ⟨rc112_ok,?_⟩
 refine List.forall_mem_cons.2 ⟨rc113_ok,?_⟩
 refine List.forall_mem_cons.2 ⟨rc115_ok,?_⟩
 refine List.forall_mem_cons.2 ⟨rc117_ok,?_⟩
 refine List.forall_mem_cons.2 ⟨rc118_ok,?_⟩
 refine List.forall_mem_cons.2 ⟨rc119_ok,?_⟩
 refine List.forall_mem_cons.2 ⟨rc120_ok,?_⟩
 refine List.forall_mem_cons.2 ⟨rc121_ok,?_⟩
 exact fun _ h=>(by cases h)
end Go.Proofs.YthcnhbclagegeaaDoor.txtB
