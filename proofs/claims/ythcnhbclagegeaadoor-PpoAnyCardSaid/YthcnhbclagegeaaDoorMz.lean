/-
  The functions that some laws reach, in the evaluator's own form, and that this is what the program's text becomes. Conditions: none; these are closed facts.
-/
import Derived.Test.YthcnhbclagegeaaDoorRqM
import Derived.Test.YthcnhbclagegeaaDoorProg
namespace Go.Proofs.YthcnhbclagegeaaDoor.txt
open Go.Rn
def s0:Pa:=.z
def s1:Pa:=(.o .z)
def s2:Pa:=(.i .z)
def s3:Pa:=(.o (.o .z))
def s4:Pa:=(.i (.o .z))
def s5:Pa:=(.o (.i .z))
def s6:Pa:=(.i (.i .z))
def s7:Pa:=(.o (.o (.o .z)))
def s8:Pa:=(.i (.o (.o .z)))
def s9:Pa:=(.o (.i (.o .z)))
def s10:Pa:=(.i (.i (.o .z)))
def s11:Pa:=(.o (.o (.i .z)))
def s12:Pa:=(.i (.o (.i .z)))
def s13:Pa:=(.o (.i (.i .z)))
def s14:Pa:=(.i (.i (.i .z)))
def s15:Pa:=(.o (.o (.o (.o .z))))
def s16:Pa:=(.i (.o (.o (.o .z))))
def s17:Pa:=(.o (.i (.o (.o .z))))
def s18:Pa:=(.i (.i (.o (.o .z))))
def s19:Pa:=(.o (.o (.i (.o .z))))
def s20:Pa:=(.i (.o (.i (.o .z))))
def s21:Pa:=(.o (.i (.i (.o .z))))
def s22:Pa:=(.i (.i (.i (.o .z))))
def s23:Pa:=(.o (.o (.o (.i .z))))
def s24:Pa:=(.i (.o (.o (.i .z))))
def s25:Pa:=(.o (.i (.o (.i .z))))
def s26:Pa:=(.i (.i (.o (.i .z))))
def s27:Pa:=(.o (.o (.i (.i .z))))
def s28:Pa:=(.i (.o (.i (.i .z))))
def s29:Pa:=(.o (.i (.i (.i .z))))
def s30:Pa:=(.i (.i (.i (.i .z))))
def s31:Pa:=(.o (.o (.o (.o (.o .z)))))
def s32:Pa:=(.i (.o (.o (.o (.o .z)))))
def s33:Pa:=(.o (.i (.o (.o (.o .z)))))
def s34:Pa:=(.i (.i (.o (.o (.o .z)))))
def s35:Pa:=(.o (.o (.i (.o (.o .z)))))
def s36:Pa:=(.i (.o (.i (.o (.o .z)))))
def s37:Pa:=(.o (.i (.i (.o (.o .z)))))
def s38:Pa:=(.i (.i (.i (.o (.o .z)))))
def s39:Pa:=(.o (.o (.o (.i (.o .z)))))
def s40:Pa:=(.i (.o (.o (.i (.o .z)))))
def s41:Pa:=(.o (.i (.o (.i (.o .z)))))
def s42:Pa:=(.i (.i (.o (.i (.o .z)))))
def s43:Pa:=(.o (.o (.i (.i (.o .z)))))
def s44:Pa:=(.i (.o (.i (.i (.o .z)))))
def s45:Pa:=(.o (.i (.i (.i (.o .z)))))
def s46:Pa:=(.i (.i (.i (.i (.o .z)))))
def s47:Pa:=(.o (.o (.o (.o (.i .z)))))
def s48:Pa:=(.i (.o (.o (.o (.i .z)))))
def s49:Pa:=(.o (.i (.o (.o (.i .z)))))
def s50:Pa:=(.i (.i (.o (.o (.i .z)))))
def s51:Pa:=(.o (.o (.i (.o (.i .z)))))
def s52:Pa:=(.i (.o (.i (.o (.i .z)))))
def s53:Pa:=(.o (.i (.i (.o (.i .z)))))
def s54:Pa:=(.i (.i (.i (.o (.i .z)))))
def s55:Pa:=(.o (.o (.o (.i (.i .z)))))
def s56:Pa:=(.i (.o (.o (.i (.i .z)))))
def s57:Pa:=(.o (.i (.o (.i (.i .z)))))
def s58:Pa:=(.i (.i (.o (.i (.i .z)))))
def s59:Pa:=(.o (.o (.i (.i (.i .z)))))
def s60:Pa:=(.i (.o (.i (.i (.i .z)))))
def s61:Pa:=(.o (.i (.i (.i (.i .z)))))
def s62:Pa:=(.i (.i (.i (.i (.i .z)))))
def s63:Pa:=(.o (.o (.o (.o (.o (.o .z))))))
def s64:Pa:=(.i (.o (.o (.o (.o (.o .z))))))
def s65:Pa:=(.o (.i (.o (.o (.o (.o .z))))))
def s66:Pa:=(.i (.i (.o (.o (.o (.o .z))))))
def s67:Pa:=(.o (.o (.i (.o (.o (.o .z))))))
def s68:Pa:=(.i (.o (.i (.o (.o (.o .z))))))
def s69:Pa:=(.o (.i (.i (.o (.o (.o .z))))))
def s70:Pa:=(.i (.i (.i (.o (.o (.o .z))))))
def s71:Pa:=(.o (.o (.o (.i (.o (.o .z))))))
def s72:Pa:=(.i (.o (.o (.i (.o (.o .z))))))
def s73:Pa:=(.o (.i (.o (.i (.o (.o .z))))))
def s74:Pa:=(.i (.i (.o (.i (.o (.o .z))))))
def s75:Pa:=(.o (.o (.i (.i (.o (.o .z))))))
def s76:Pa:=(.i (.o (.i (.i (.o (.o .z))))))
def s77:Pa:=(.o (.i (.i (.i (.o (.o .z))))))
def s78:Pa:=(.i (.i (.i (.i (.o (.o .z))))))
def s79:Pa:=(.o (.o (.o (.o (.i (.o .z))))))
def s80:Pa:=(.i (.o (.o (.o (.i (.o .z))))))
def s81:Pa:=(.o (.i (.o (.o (.i (.o .z))))))
def s82:Pa:=(.i (.i (.o (.o (.i (.o .z))))))
def s83:Pa:=(.o (.o (.i (.o (.i (.o .z))))))
def s84:Pa:=(.i (.o (.i (.o (.i (.o .z))))))
def s85:Pa:=(.o (.i (.i (.o (.i (.o .z))))))
def s86:Pa:=(.i (.i (.i (.o (.i (.o .z))))))
def s87:Pa:=(.o (.o (.o (.i (.i (.o .z))))))
def s88:Pa:=(.i (.o (.o (.i (.i (.o .z))))))
def s89:Pa:=(.o (.i (.o (.i (.i (.o .z))))))
def s90:Pa:=(.i (.i (.o (.i (.i (.o .z))))))
def s91:Pa:=(.o (.o (.i (.i (.i (.o .z))))))
def s92:Pa:=(.i (.o (.i (.i (.i (.o .z))))))
def s93:Pa:=(.o (.i (.i (.i (.i (.o .z))))))
def s94:Pa:=(.i (.i (.i (.i (.i (.o .z))))))
def s95:Pa:=(.o (.o (.o (.o (.o (.i .z))))))
def s96:Pa:=(.i (.o (.o (.o (.o (.i .z))))))
def s97:Pa:=(.o (.i (.o (.o (.o (.i .z))))))
def s98:Pa:=(.i (.i (.o (.o (.o (.i .z))))))
def s99:Pa:=(.o (.o (.i (.o (.o (.i .z))))))
def s100:Pa:=(.i (.o (.i (.o (.o (.i .z))))))
def s101:Pa:=(.o (.i (.i (.o (.o (.i .z))))))
def s102:Pa:=(.i (.i (.i (.o (.o (.i .z))))))
def s103:Pa:=(.o (.o (.o (.i (.o (.i .z))))))
def s104:Pa:=(.i (.o (.o (.i (.o (.i .z))))))
def s105:Pa:=(.o (.i (.o (.i (.o (.i .z))))))
def s106:Pa:=(.i (.i (.o (.i (.o (.i .z))))))
def s107:Pa:=(.o (.o (.i (.i (.o (.i .z))))))
def s108:Pa:=(.i (.o (.i (.i (.o (.i .z))))))
def s109:Pa:=(.o (.i (.i (.i (.o (.i .z))))))
def s110:Pa:=(.i (.i (.i (.i (.o (.i .z))))))
def s111:Pa:=(.o (.o (.o (.o (.i (.i .z))))))
def s112:Pa:=(.i (.o (.o (.o (.i (.i .z))))))
def s113:Pa:=(.o (.i (.o (.o (.i (.i .z))))))
def s114:Pa:=(.i (.i (.o (.o (.i (.i .z))))))
def s115:Pa:=(.o (.o (.i (.o (.i (.i .z))))))
def s116:Pa:=(.i (.o (.i (.o (.i (.i .z))))))
def s117:Pa:=(.o (.i (.i (.o (.i (.i .z))))))
def s118:Pa:=(.i (.i (.i (.o (.i (.i .z))))))
def s119:Pa:=(.o (.o (.o (.i (.i (.i .z))))))
def s120:Pa:=(.i (.o (.o (.i (.i (.i .z))))))
def s121:Pa:=(.o (.i (.o (.i (.i (.i .z))))))
def s122:Pa:=(.i (.i (.o (.i (.i (.i .z))))))
def s123:Pa:=(.o (.o (.i (.i (.i (.i .z))))))
def t0:RO:=.t s0
def t1:RO:=.t s1
def t2:RO:=.t s2
def t3:RO:=.t s3
def t4:RO:=.t s4
def t5:RO:=.t s5
def t6:RO:=.t s6
def t7:RO:=.t s7
def t8:RO:=.t s8
def t9:RO:=.t s9
def t10:RO:=.t s10
def t11:RO:=.t s11
def t12:RO:=.t s12
def t13:RO:=.t s13
def t14:RO:=.t s14
def t15:RO:=.t s15
def t16:RO:=.t s16
def t17:RO:=.t s17
def t18:RO:=.t s18
def t19:RO:=.t s19
def t20:RO:=.t s20
def t21:RO:=.t s21
def t22:RO:=.t s22
def t23:RO:=.t s23
def t24:RO:=.t s24
def t25:RO:=.t s25
def t26:RO:=.t s26
def t27:RO:=.t s27
def t28:RO:=.t s28
def t29:RO:=.t s29
def t30:RO:=.t s30
def t31:RO:=.t s31
def t32:RO:=.t s32
def t33:RO:=.t s33
def t34:RO:=.t s34
def t35:RO:=.t s35
def t36:RO:=.t s36
def t37:RO:=.t s37
def t38:RO:=.t s38
def t39:RO:=.t s39
def t40:RO:=.t s40
def t41:RO:=.t s41
def t42:RO:=.t s42
def t43:RO:=.t s43
def t44:RO:=.t s44
def t45:RO:=.t s45
def t46:RO:=.t s46
def t47:RO:=.t s47
def t48:RO:=.t s48
def t49:RO:=.t s49
def t50:RO:=.t s50
def t51:RO:=.t s51
def t52:RO:=.t s52
def t53:RO:=.t s53
def t54:RO:=.t s54
def t55:RO:=.t s55
def t56:RO:=.t s56
def t57:RO:=.t s57
def t58:RO:=.t s58
def t59:RO:=.t s59
def t60:RO:=.t s60
def t61:RO:=.t s61
def t62:RO:=.t s62
def t63:RO:=.t s63
def t64:RO:=.t s64
def t65:RO:=.t s65
def t66:RO:=.t s66
def t67:RO:=.t s67
def t68:RO:=.t s68
def t69:RO:=.t s69
def t70:RO:=.t s70
def t71:RO:=.t s71
def t72:RO:=.t s72
def t73:RO:=.t s73
def t74:RO:=.t s74
def t75:RO:=.t s75
def t76:RO:=.t s76
def t77:RO:=.t s77
def t78:RO:=.t s78
def t79:RO:=.t s79
def t80:RO:=.t s80
def t81:RO:=.t s81
def t82:RO:=.t s82
def t83:RO:=.t s83
def t84:RO:=.t s84
def t85:RO:=.t s85
def t86:RO:=.t s86
def t87:RO:=.t s87
def t88:RO:=.t s88
def t89:RO:=.t s89
def t90:RO:=.t s90
def t91:RO:=.t s91
def t92:RO:=.t s92
def t93:RO:=.t s93
def t94:RO:=.t s94
def t95:RO:=.t s95
def t96:RO:=.t s96
def t97:RO:=.t s97
def t98:RO:=.t s98
def t99:RO:=.t s99
def t100:RO:=.t s100
def t101:RO:=.t s101
def t102:RO:=.t s102
def t103:RO:=.t s103
def t104:RO:=.t s104
def t105:RO:=.t s105
def t106:RO:=.t s106
def t107:RO:=.t s107
def t108:RO:=.t s108
def t109:RO:=.t s109
def t110:RO:=.t s110
def t111:RO:=.t s111
def t112:RO:=.t s112
def t113:RO:=.t s113
def t114:RO:=.t s114
def t115:RO:=.t s115
def t116:RO:=.t s116
def t117:RO:=.t s117
def t118:RO:=.t s118
def t119:RO:=.t s119
def t120:RO:=.t s120
def t121:RO:=.t s121
def t122:RO:=.t s122
def t123:RO:=.t s123
abbrev Q (d:Pa) (o:RP):RQ:=.q (.d d) .no .nm o
abbrev L (x:RO):RP:=.ld false 1 x
abbrev Z (o:RP):RQ:=.q .no .no .nm o
abbrev oq1 (d g:Pa) (o:RP):RQ:=.q (.d d) (.g g true) .nm o
abbrev oq2 (d g:Pa) (o:RP):RQ:=.q (.d d) (.g g false) .nm o
abbrev M (d:Pa) (x:RO):RQ:=.q (.d d) .no .nm (.mv x)
abbrev om1 (d g:Pa) (x:RO):RQ:=.q (.d d) (.g g true) .nm (.mv x)
abbrev i6 (n:Nat):RV:=.i .i64 (.ofNat n)
abbrev k6 (n:Nat):RO:=.c (.i .i64 (.ofNat n))
abbrev kT:RO:=.c (.b true)
abbrev kF:RO:=.c (.b false)
def rc9:RF:=.f 1 (.sq (.rg [Q s1 (.bx t0),Q s2 (.mv (.c .np))]) (.sq (.rg [Q s9 (.fa 1 t1),Q s10 (L t9),Q s11 (.fa 1 t1),Q s12 (L t11),Q s13 (.ln false t12),Q s14 (.mm false t13 (k6 40)),Q s15 (.sc 6 t10 none (some t14) none),M s3 t15]) (.sq (.rg [Q s4 (.mv (.c .ns))]) (.sq (.sq (.rg [M s16 t3,Q s17 (.ln false t16),Q s18 (.mv (k6 0))]) (.bl 0 (.lp (.sq (.rg [Q s19 (.bn .lss t18 t17)]) (.sq (.cd t19 .sk (.ex 0)) (.sq (.bl 1 (.sq (.rg [M s20 t18,M s5 t20]) (.sq (.rg [M s21 t5,Q s22 (.bn .add t21 (k6 1)),M s6 t22]) (.bl 2 (.lp (.sq (.sq (.rg [M s23 t6,M s24 t3,Q s25 (.ln false t24),Q s26 (.bn .lss t23 t25)]) (.cd t26 .sk (.ex 2))) (.sq (.bl 3 (.sq (.dr [M s29 t3,M s30 t5,Q s31 (.ia 6 t29 t30),Q s32 (.fa 0 t31),Q s33 (L t32),M s34 t3,M s35 t6,Q s36 (.ia 6 t34 t35),Q s37 (.fa 0 t36),Q s38 (L t37),M s7 t33,M s8 t38]) (.sq (.rg [M s39 t7,Q s40 (.bn .eql t39 (k6 0)),M s41 t40,om1 s42 s41 t8,oq1 s43 s41 (.bn .neq t42 (k6 0)),Q s44 (.pick t41 t43 kF),M s45 t44,oq2 s46 s45 (.mv t7),oq2 s47 s45 (.bn .neq t46 (k6 0)),oq2 s48 s45 (.mv t47),om1 s49 s48 t7,om1 s50 s48 t8,oq1 s51 s48 (.bn .eql t49 t50),oq2 s52 s45 (.pick t48 t51 kF),Q s53 (.pick t45 kT t52)]) (.cd t53 (.rg [M s54 t4,M s55 t5,M s56 t6,Q s57 (.bd (.cons (i6 0) (.cons (i6 0) .nil)) [(0,1,t55),(1,1,t56)]),Q s58 (.bs (.cons (i6 0) (.cons (i6 0) .nil)) 1 [(0,2,t57)]),Q s59 (.ap 2 t54 t58),M s4 t59]) .sk)))) (.rg [M s27 t6,Q s28 (.bn .add t27 (k6 1)),M s6 t28])))))))) (.rg [Q s60 (.bn .add t18 (k6 1)),M s18 t60]))))))) (.sq (.rg [Q s61 (.ld true 8 t1),M s62 t4,Q s63 (.cl 29 [t61,t62]),M s2 t63]) .rt))))) [.t s2]
theorem Ys6:Zak Tryd.prog 9=some rc9:=by kernel_rfl
def Xfg:RF:=.f 1 (.sq (.rg [Q s2 (.mv (.c .ns))]) (.sq (.rg [Q s3 (.mv (k6 0))]) (.sq (.sq (.rg [M s9 t0,Q s10 (.nc t9),Q s11 (.fa 1 t10),Q s12 (.ld true 40 t11),Q s13 (.mv (k6 0))]) (.bl 0 (.lp (.sq (.rg [Q s14 (.bn .lss t13 (k6 40))]) (.sq (.cd t14 .sk (.ex 0)) (.sq (.bl 1 (.sq (.rg [Q s15 (.ix false 40 1 t12 t13),M s5 t15]) (.rg [M s16 t3,M s17 t5,Q s18 (.cl 35 [t17]),Q s19 (.bn .add t16 t18),M s3 t19]))) (.rg [Q s20 (.bn .add t13 (k6 1)),M s13 t20]))))))) (.sq (.rg [M s21 t3,Q s22 (.ms (.cons (i6 0) (.cons (i6 0) .nil)) (k6 0) t21),M s6 t22]) (.sq (.sq (.rg [M s23 t0,Q s24 (.nc t23),Q s25 (.fa 1 t24),Q s26 (.ld true 40 t25),Q s27 (.mv (k6 0))]) (.bl 2 (.lp (.sq (.rg [Q s28 (.bn .lss t27 (k6 40))]) (.sq (.cd t28 .sk (.ex 2)) (.sq (.bl 3 (.sq (.rg [M s29 t27,Q s30 (.ix false 40 1 t26 t27),M s7 t29,M s8 t30]) (.bl 4 (.lp (.sq (.sq (.rg [M s31 t8,Q s32 (.bn .neq t31 (.c (.i .u64 (.ofNat 0))))]) (.cd t32 .sk (.ex 4))) (.sq (.bl 5 (.rg [M s37 t6,M s38 t7,M s39 t8,Q s40 (.cl 36 [t39]),Q s41 (.bd (.cons (i6 0) (.cons (i6 0) .nil)) [(0,1,t38),(1,1,t40)]),Q s42 (.bs (.cons (i6 0) (.cons (i6 0) .nil)) 1 [(0,2,t41)]),Q s43 (.ap 2 t37 t42),M s6 t43])) (.rg [M s33 t8,M s34 t8,Q s35 (.bn .sub t34 (.c (.i .u64 (.ofNat 1)))),Q s36 (.bn .and t33 t35),M s8 t36]))))))) (.rg [Q s44 (.bn .add t27 (k6 1)),M s27 t44]))))))) (.sq (.rg [M s45 t6,M s2 t45]) .rt)))))) [.t s2]
theorem Ylv:Zak Tryd.prog 11=some Xfg:=by kernel_rfl
def Xff:RF:=.f 2 (.sq (.rg [Q s4 (.mv kF)]) (.sq (.dr [M s5 t0,M s6 t1,.q (.d s7) .no .ef (.cl 37 [t5,t6]),Q s8 (.nc t7),Q s9 (.fa 1 t8),Q s10 (.ld true 40 t9),M s11 t1,Q s12 (.nc t11),Q s13 (.fa 1 t12),.q (.d s14) .no (.ck 0 1) (.ld true 40 t13),Q s15 (.se [1,1,1,1,1,1,1,1,1,1,1,1,1,1,1,1,1,1,1,1,1,1,1,1,1,1,1,1,1,1,1,1,1,1,1,1,1,1,1,1] false t10 t14),M s4 t15]) .rt)) [.t s4]
theorem Ylu:Zak Tryd.prog 14=some Xff:=by kernel_rfl
def Xfe:RF:=.f 2 (.sq (.rg [Q s4 (.mv (.c .np))]) (.sq (.rg [M s8 t0,Q s9 (.mm true t8 (k6 0)),Q s10 (.mm false t9 (k6 40)),Q s11 (.bd (.cons (i6 0) (.cons (.i .u64 (.ofNat 0)) (.cons (.i .u64 (.ofNat 0)) (.cons (.i .u64 (.ofNat 0)) (.cons (.i .u64 (.ofNat 0)) (.cons (.i .u64 (.ofNat 0)) (.cons (.i .u64 (.ofNat 0)) (.cons (.i .u64 (.ofNat 0)) (.cons (.i .u64 (.ofNat 0)) (.cons (.i .u64 (.ofNat 0)) (.cons (.i .u64 (.ofNat 0)) (.cons (.i .u64 (.ofNat 0)) (.cons (.i .u64 (.ofNat 0)) (.cons (.i .u64 (.ofNat 0)) (.cons (.i .u64 (.ofNat 0)) (.cons (.i .u64 (.ofNat 0)) (.cons (.i .u64 (.ofNat 0)) (.cons (.i .u64 (.ofNat 0)) (.cons (.i .u64 (.ofNat 0)) (.cons (.i .u64 (.ofNat 0)) (.cons (.i .u64 (.ofNat 0)) (.cons (.i .u64 (.ofNat 0)) (.cons (.i .u64 (.ofNat 0)) (.cons (.i .u64 (.ofNat 0)) (.cons (.i .u64 (.ofNat 0)) (.cons (.i .u64 (.ofNat 0)) (.cons (.i .u64 (.ofNat 0)) (.cons (.i .u64 (.ofNat 0)) (.cons (.i .u64 (.ofNat 0)) (.cons (.i .u64 (.ofNat 0)) (.cons (.i .u64 (.ofNat 0)) (.cons (.i .u64 (.ofNat 0)) (.cons (.i .u64 (.ofNat 0)) (.cons (.i .u64 (.ofNat 0)) (.cons (.i .u64 (.ofNat 0)) (.cons (.i .u64 (.ofNat 0)) (.cons (.i .u64 (.ofNat 0)) (.cons (.i .u64 (.ofNat 0)) (.cons (.i .u64 (.ofNat 0)) (.cons (.i .u64 (.ofNat 0)) (.cons (.i .u64 (.ofNat 0)) .nil))))))))))))))))))))))))))))))))))))))))) [(0,1,t10)]),Q s12 (.bx t11),M s5 t12]) (.sq (.sq (.rg [M s13 t1,Q s14 (.ln false t13),Q s15 (.mv (k6 0))]) (.bl 0 (.lp (.sq (.rg [Q s16 (.bn .lss t15 t14)]) (.sq (.cd t16 .sk (.ex 0)) (.sq (.bl 1 (.sq (.rg [Q s17 (.ia 2 t13 t15),Q s18 (.ld true 2 t17),Q s7 (.al (.cons (i6 0) (.cons (i6 0) .nil))),Z (.st 2 t7 t18)]) (.sq (.rg [M s19 t5,Q s20 (.fa 0 t7),Q s21 (L t20),Q s22 (.cl 58 [t19,t21]),M s23 t22,om1 s24 s23 t5,oq1 s25 s23 (.fa 1 t7),oq1 s26 s23 (L t25),oq1 s27 s23 (.cl 58 [t24,t26]),Q s28 (.pick t23 t27 kF)]) (.cd t28 (.dr [M s29 t5,Q s30 (.fa 0 t7),Q s31 (L t30),Q s32 (.nc t29),Q s33 (.fa 1 t32),Q s34 (.ip 40 1 t33 t31),Q s35 (L t34),Q s36 (.fa 1 t7),Q s37 (L t36),Q s38 (.bn .shl (.c (.i .u64 (.ofNat 1))) t37),Q s39 (.bn .or t35 t38),Q s40 (.nc t29),Q s41 (.fa 1 t40),Q s42 (.ip 40 1 t41 t31),.q .no .no .ef (.st 1 t42 t39)]) .sk)))) (.rg [Q s43 (.bn .add t15 (k6 1)),M s15 t43]))))))) (.sq (.rg [M s44 t5,M s4 t44]) .rt)))) [.t s4]
theorem Ylt:Zak Tryd.prog 20=some Xfe:=by kernel_rfl
def Xfd:RF:=.f 2 (.sq (.rg [Q s2 (.bx t0),Q s4 (.mv (.c .np))]) (.sq (.rg [Q s5 (.ld true 8 t2),M s6 t1,Q s7 (.cl 59 [t5,t6,(.c (.fn 60 .nil))]),M s4 t7]) .rt)) [.t s4]
theorem Yls:Zak Tryd.prog 21=some Xfd:=by kernel_rfl
def rc22:RF:=.f 2 (.sq (.rg [Q s2 (.bx t0),Q s4 (.mv (.c .np))]) (.sq (.rg [M s5 t1,Q s6 (.ld true 8 t2),M s7 t1,Q s8 (.cl 21 [t6,t7]),Q s9 (.cl 61 [t5,t8]),M s4 t9]) .rt)) [.t s4]
theorem rc22_ok:Zak Tryd.prog 22=some rc22:=by kernel_rfl
def Xfc:RF:=.f 1 (.sq (.rg [Q s1 (.bx t0),Q s2 (.mv (.c .np))]) (.sq (.dr [.q (.d s3) .no (.ck 0 1) (.ld true 8 t1),Q s4 (.ld true 8 t1),.q (.d s5) .no .ef (.cl 9 [t4]),.q (.d s6) .no .ef (.cl 59 [t3,t5,(.c (.fn 62 .nil))]),M s2 t6]) .rt)) [.t s2]
theorem Ylr:Zak Tryd.prog 23=some Xfc:=by kernel_rfl
def Xfb:RF:=.f 0 (.sq (.rg [Q s0 (.mv kF)]) (.sq (.rg [Q s1 (.cl 75 [(k6 0)]),Q s2 (.cl 74 [t1]),Q s3 (.cl 46 [t2,(k6 2),(k6 3)]),M s4 t3,oq1 s5 s4 (.cl 75 [(k6 1)]),oq1 s6 s4 (.cl 74 [t5]),oq1 s7 s4 (.cl 46 [t6,(k6 2),(k6 3)]),Q s8 (.pick t4 t7 kF),M s9 t8,oq1 s10 s9 (.cl 75 [(k6 2)]),oq1 s11 s9 (.cl 74 [t10]),oq1 s12 s9 (.cl 46 [t11,(k6 2),(k6 3)]),oq1 s13 s9 (.nt t12),Q s14 (.pick t9 t13 kF),M s15 t14,oq1 s16 s15 (.cl 75 [(k6 0)]),oq1 s17 s15 (.cl 76 [t16]),oq1 s18 s15 (.cl 11 [t17]),oq1 s19 s15 (.ln false t18),oq1 s20 s15 (.bn .eql t19 (k6 0)),Q s21 (.pick t15 t20 kF),M s22 t21,oq1 s23 s22 (.cl 75 [(k6 0)]),oq1 s24 s22 (.cl 77 [t23]),oq1 s25 s22 (.cl 11 [t24]),oq1 s26 s22 (.ln false t25),oq1 s27 s22 (.bn .eql t26 (k6 0)),Q s28 (.pick t22 t27 kF),M s0 t28]) .rt)) [.t s0]
theorem Ylq:Zak Tryd.prog 27=some Xfb:=by kernel_rfl
def rc29:RF:=.f 2 (.sq (.rg [Q s2 (.bx t0),Q s4 (.mv (.c .np))]) (.sq (.rg [Q s5 (.fa 1 t2),Q s6 (L t5),Q s7 (.ln false t6),M s8 t1,Q s9 (.cl 20 [t7,t8]),M s4 t9]) .rt)) [.t s4]
theorem rc29_ok:Zak Tryd.prog 29=some rc29:=by kernel_rfl
def Xe9:RF:=.f 1 (.sq (.rg [Q s2 (.mv (k6 0))]) (.sq (.rg [M s3 t0,Q s4 (.bn .shr t3 (.c (.i .u64 (.ofNat 1)))),Q s5 (.bn .and t4 (.c (.i .u64 (.ofNat 6148914691236517205)))),M s6 t0,Q s7 (.bn .and t6 (.c (.i .u64 (.ofNat 6148914691236517205)))),Q s8 (.bn .add t5 t7),M s0 t8]) (.sq (.rg [M s9 t0,Q s10 (.bn .shr t9 (.c (.i .u64 (.ofNat 2)))),Q s11 (.bn .and t10 (.c (.i .u64 (.ofNat 3689348814741910323)))),M s12 t0,Q s13 (.bn .and t12 (.c (.i .u64 (.ofNat 3689348814741910323)))),Q s14 (.bn .add t11 t13),M s0 t14]) (.sq (.rg [M s15 t0,Q s16 (.bn .shr t15 (.c (.i .u64 (.ofNat 4)))),M s17 t0,Q s18 (.bn .add t16 t17),Q s19 (.bn .and t18 (.c (.i .u64 (.ofNat 1085102592571150095)))),M s0 t19]) (.sq (.rg [M s20 t0,M s21 t0,Q s22 (.bn .shr t21 (.c (.i .u64 (.ofNat 8)))),Q s23 (.bn .add t20 t22),M s0 t23]) (.sq (.rg [M s24 t0,M s25 t0,Q s26 (.bn .shr t25 (.c (.i .u64 (.ofNat 16)))),Q s27 (.bn .add t24 t26),M s0 t27]) (.sq (.rg [M s28 t0,M s29 t0,Q s30 (.bn .shr t29 (.c (.i .u64 (.ofNat 32)))),Q s31 (.bn .add t28 t30),M s0 t31]) (.sq (.rg [M s32 t0,Q s33 (.cv .i64 t32),Q s34 (.bn .and t33 (k6 127)),M s2 t34]) .rt)))))))) [.t s2]
theorem Ylo:Zak Tryd.prog 35=some Xe9:=by kernel_rfl
def Xe8:RF:=.f 1 (.sq (.rg [Q s2 (.mv (k6 0))]) (.sq (.sq (.rg [M s3 t0,Q s4 (.bn .eql t3 (.c (.i .u64 (.ofNat 0))))]) (.cd t4 (.sq (.rg [Q s2 (.mv (k6 64))]) .rt) .sk)) (.sq (.rg [M s5 t0,M s6 t0,Q s7 (.ng t6),Q s8 (.bn .and t5 t7),Q s9 (.bn .mul t8 (.c (.i .u64 (.ofNat 285870213051353865)))),Q s10 (.bn .shr t9 (.c (.i .u64 (.ofNat 58)))),Q s11 (.ip 64 1 (.c (.p 0 0)) t10),Q s12 (L t11),Q s13 (.cv .i64 t12),M s2 t13]) .rt))) [.t s2]
theorem Yln:Zak Tryd.prog 36=some Xe8:=by kernel_rfl
def Xe7:RF:=.f 2 (.sq (.rg [Q s4 (.mv (.c .np))]) (.sq (.rg [M s5 t0,M s6 t1,Q s7 (.cl 91 [t5,t6,(.c (.fn 92 .nil))]),M s4 t7]) .rt)) [.t s4]
theorem Ylm:Zak Tryd.prog 37=some Xe7:=by kernel_rfl
def Xe6:RF:=.f 2 (.sq (.rg [Q s4 (.mv (.c .np))]) (.sq (.dr [M s8 t0,Q s9 (.nc t8),Q s10 (.fa 0 t9),Q s11 (L t10),M s12 t1,Q s13 (.nc t12),Q s14 (.fa 0 t13),Q s15 (L t14),Q s16 (.mm true t11 t15),Q s17 (.bd (.cons (i6 0) (.cons (.i .u64 (.ofNat 0)) (.cons (.i .u64 (.ofNat 0)) (.cons (.i .u64 (.ofNat 0)) (.cons (.i .u64 (.ofNat 0)) (.cons (.i .u64 (.ofNat 0)) (.cons (.i .u64 (.ofNat 0)) (.cons (.i .u64 (.ofNat 0)) (.cons (.i .u64 (.ofNat 0)) (.cons (.i .u64 (.ofNat 0)) (.cons (.i .u64 (.ofNat 0)) (.cons (.i .u64 (.ofNat 0)) (.cons (.i .u64 (.ofNat 0)) (.cons (.i .u64 (.ofNat 0)) (.cons (.i .u64 (.ofNat 0)) (.cons (.i .u64 (.ofNat 0)) (.cons (.i .u64 (.ofNat 0)) (.cons (.i .u64 (.ofNat 0)) (.cons (.i .u64 (.ofNat 0)) (.cons (.i .u64 (.ofNat 0)) (.cons (.i .u64 (.ofNat 0)) (.cons (.i .u64 (.ofNat 0)) (.cons (.i .u64 (.ofNat 0)) (.cons (.i .u64 (.ofNat 0)) (.cons (.i .u64 (.ofNat 0)) (.cons (.i .u64 (.ofNat 0)) (.cons (.i .u64 (.ofNat 0)) (.cons (.i .u64 (.ofNat 0)) (.cons (.i .u64 (.ofNat 0)) (.cons (.i .u64 (.ofNat 0)) (.cons (.i .u64 (.ofNat 0)) (.cons (.i .u64 (.ofNat 0)) (.cons (.i .u64 (.ofNat 0)) (.cons (.i .u64 (.ofNat 0)) (.cons (.i .u64 (.ofNat 0)) (.cons (.i .u64 (.ofNat 0)) (.cons (.i .u64 (.ofNat 0)) (.cons (.i .u64 (.ofNat 0)) (.cons (.i .u64 (.ofNat 0)) (.cons (.i .u64 (.ofNat 0)) (.cons (.i .u64 (.ofNat 0)) .nil))))))))))))))))))))))))))))))))))))))))) [(0,1,t16)]),Q s18 (.bx t17),M s5 t18]) (.sq (.sq (.rg [M s19 t0,Q s20 (.nc t19),Q s21 (.fa 1 t20),Q s22 (.ld true 40 t21),Q s23 (.mv (k6 0))]) (.bl 0 (.lp (.sq (.rg [Q s24 (.bn .lss t23 (k6 40))]) (.sq (.cd t24 .sk (.ex 0)) (.sq (.bl 1 (.sq (.rg [M s25 t23,Q s26 (.ix false 40 1 t22 t23),M s6 t25,M s7 t26]) (.bl 2 (.lp (.sq (.sq (.rg [M s27 t7,Q s28 (.bn .neq t27 (.c (.i .u64 (.ofNat 0))))]) (.cd t28 .sk (.ex 2))) (.sq (.bl 3 (.dr [M s33 t5,M s34 t6,Q s35 (.nc t33),Q s36 (.fa 1 t35),Q s37 (.ip 40 1 t36 t34),.q (.d s38) .no (.ck 0 1) (L t37),M s39 t1,M s40 t7,.q (.d s41) .no .ef (.cl 36 [t40]),Q s42 (.nc t39),Q s43 (.fa 1 t42),Q s44 (.ip 40 1 t43 t41),Q s45 (L t44),Q s46 (.bn .or t38 t45),Q s47 (.nc t33),Q s48 (.fa 1 t47),Q s49 (.ip 40 1 t48 t34),.q .no .no .ef (.st 1 t49 t46)])) (.rg [M s29 t7,M s30 t7,Q s31 (.bn .sub t30 (.c (.i .u64 (.ofNat 1)))),Q s32 (.bn .and t29 t31),M s7 t32]))))))) (.rg [Q s50 (.bn .add t23 (k6 1)),M s23 t50]))))))) (.sq (.rg [M s51 t5,M s4 t51]) .rt)))) [.t s4]
theorem Yll:Zak Tryd.prog 38=some Xe6:=by kernel_rfl
def rc45:RF:=.f 1 (.sq (.rg [Q s1 (.bx t0),Q s2 (.mv (.c .np))]) (.sq (.dr [.q (.d s3) .no .ef (.cl 63 []),.q (.d s4) .no .ef (.ml 2 .nf false t3 (.c (.s [114,102]))),.q (.d s5) .no (.ck 0 2) (.ld true 8 t1),.q (.d s6) .no .ef (.cf t4 [t5]),M s2 t6]) .rt)) [.t s2]
theorem rc45_ok:Zak Tryd.prog 45=some rc45:=by kernel_rfl
def Xe5:RF:=.f 3 (.sq (.rg [Q s6 (.mv kF)]) (.sq (.rg [M s7 t0,M s8 t1,Q s9 (.cl 58 [t7,t8]),M s10 t9,om1 s11 s10 t0,om1 s12 s10 t2,oq1 s13 s10 (.cl 58 [t11,t12]),Q s14 (.pick t10 t13 kF),M s15 t14,om1 s16 s15 t0,om1 s17 s15 t1,oq1 s18 s15 (.nc t16),oq1 s19 s15 (.fa 1 t18),oq1 s20 s15 (.ip 40 1 t19 t17),oq1 s21 s15 (L t20),om1 s22 s15 t2,oq1 s23 s15 (.bn .shr t21 t22),oq1 s24 s15 (.bn .and t23 (.c (.i .u64 (.ofNat 1)))),oq1 s25 s15 (.bn .eql t24 (.c (.i .u64 (.ofNat 1)))),Q s26 (.pick t15 t25 kF),M s6 t26]) .rt)) [.t s6]
theorem Ylk:Zak Tryd.prog 46=some Xe5:=by kernel_rfl
def rc47:RF:=.f 1 (.sq (.rg [Q s1 (.bx t0),Q s2 (.mv (.c .np))]) (.sq (.dr [.q (.d s3) .no .ef (.cl 63 []),.q (.d s4) .no .ef (.ml 2 .nf false t3 (.c (.s [102,114]))),.q (.d s5) .no (.ck 0 2) (.ld true 8 t1),.q (.d s6) .no .ef (.cf t4 [t5]),M s2 t6]) .rt)) [.t s2]
theorem rc47_ok:Zak Tryd.prog 47=some rc47:=by kernel_rfl
def rc51:RF:=.f 1 (.sq (.rg [Q s1 (.bx t0),Q s2 (.mv (.c .np))]) (.sq (.dr [.q (.d s3) .no .ef (.cl 63 []),.q (.d s4) .no .ef (.ml 2 .nf false t3 (.c (.s [99,111]))),.q (.d s5) .no (.ck 0 2) (.ld true 8 t1),.q (.d s6) .no .ef (.cf t4 [t5]),M s2 t6]) .rt)) [.t s2]
theorem rc51_ok:Zak Tryd.prog 51=some rc51:=by kernel_rfl
def Xe1:RF:=.f 2 (.sq (.rg [Q s4 (.mv kF)]) (.sq (.rg [M s5 t1,Q s6 (.bn .leq (k6 0) t5),M s7 t6,om1 s8 s7 t1,om1 s9 s7 t0,oq1 s10 s7 (.nc t9),oq1 s11 s7 (.fa 0 t10),oq1 s12 s7 (L t11),oq1 s13 s7 (.bn .lss t8 t12),Q s14 (.pick t7 t13 kF),M s4 t14]) .rt)) [.t s4]
theorem Ylg:Zak Tryd.prog 58=some Xe1:=by kernel_rfl
def Xe0:RF:=.f 3 (.sq (.rg [Q s3 (.bx t0),Q s6 (.mv (.c .np))]) (.sq (.rg [Q s11 (.fa 1 t3),Q s12 (L t11),Q s13 (.ln false t12),M s7 t13]) (.sq (.rg [Q s8 (.mv (.c .ns))]) (.sq (.sq (.rg [M s14 t1,Q s15 (.cl 11 [t14]),Q s16 (.ln false t15),Q s17 (.mv (k6 0))]) (.bl 0 (.lp (.sq (.rg [Q s18 (.bn .lss t17 t16)]) (.sq (.cd t18 .sk (.ex 0)) (.sq (.bl 1 (.sq (.rg [Q s19 (.ia 2 t15 t17),Q s20 (.ld true 2 t19),Q s10 (.al (.cons (i6 0) (.cons (i6 0) .nil))),Z (.st 2 t10 t20)]) (.sq (.dr [Q s21 (.fa 0 t10),Q s22 (L t21),M s23 t7,Q s24 (.bn .lss t22 t23),M s25 t24,oq1 s26 s25 (.fa 1 t10),oq1 s27 s25 (L t26),om1 s28 s25 t7,oq1 s29 s25 (.bn .lss t27 t28),Q s30 (.pick t25 t29 kF),M s31 t30,om1 s32 s31 t2,oq1 s33 s31 (.fa 1 t3),oq1 s34 s31 (L t33),oq1 s35 s31 (.fa 0 t10),oq1 s36 s31 (L t35),oq1 s37 s31 (.ia 6 t34 t36),oq1 s38 s31 (.fa 1 t3),oq1 s39 s31 (L t38),oq1 s40 s31 (.fa 1 t10),oq1 s41 s31 (L t40),oq1 s42 s31 (.ia 6 t39 t41),.q (.d s43) (.g s31 true) .ef (.cf t32 [t37,t42]),Q s44 (.pick t31 t43 kF)]) (.cd t44 (.rg [M s45 t8,Q s46 (.ld true 2 t10),Q s47 (.bs (.cons (i6 0) (.cons (i6 0) .nil)) 1 [(0,2,t46)]),Q s48 (.ap 2 t45 t47),M s8 t48]) .sk)))) (.rg [Q s49 (.bn .add t17 (k6 1)),M s17 t49]))))))) (.sq (.rg [M s50 t7,M s51 t1,Q s52 (.cl 94 [t51]),Q s53 (.mm true t50 t52),M s54 t8,Q s55 (.cl 20 [t53,t54]),M s6 t55]) .rt))))) [.t s6]
theorem Ylf:Zak Tryd.prog 59=some Xe0:=by kernel_rfl
def Xez:RF:=.f 2 (.sq (.rg [Q s4 (.mv kF)]) (.sq (.dr [M s5 t0,Q s6 (.nc t5),Q s7 (.fa 0 t6),Q s8 (L t7),M s9 t1,Q s10 (.nc t9),Q s11 (.fa 0 t10),Q s12 (L t11),Q s13 (.bn .eql t8 t12),M s4 t13]) .rt)) [.t s4]
theorem Yle:Zak Tryd.prog 60=some Xez:=by kernel_rfl
def Xey:RF:=.f 2 (.sq (.rg [Q s4 (.mv (.c .np))]) (.sq (.rg [M s5 t0,M s6 t1,Q s7 (.cl 91 [t5,t6,(.c (.fn 103 .nil))]),M s4 t7]) .rt)) [.t s4]
theorem Yld:Zak Tryd.prog 61=some Xey:=by kernel_rfl
def Xex:RF:=.f 2 (.sq (.rg [Q s4 (.mv kF)]) (.sq (.dr [M s5 t0,Q s6 (.nc t5),Q s7 (.fa 1 t6),Q s8 (L t7),Q s9 (.bn .neq t8 (k6 3)),M s10 t9,om1 s11 s10 t1,oq1 s12 s10 (.nc t11),oq1 s13 s10 (.fa 1 t12),oq1 s14 s10 (L t13),oq1 s15 s10 (.bn .neq t14 (k6 3)),Q s16 (.pick t10 t15 kF),M s17 t16,om1 s18 s17 t0,oq1 s19 s17 (.nc t18),oq1 s20 s17 (.fa 3 t19),oq1 s21 s17 (L t20),om1 s22 s17 t1,oq1 s23 s17 (.nc t22),oq1 s24 s17 (.fa 3 t23),oq1 s25 s17 (L t24),oq1 s26 s17 (.bn .eql t21 t25),Q s27 (.pick t17 t26 kF),M s4 t27]) .rt)) [.t s4]
theorem Ylc:Zak Tryd.prog 62=some Xex:=by kernel_rfl
def rc63:RF:=.f 0 (.sq (.rg [Q s0 (.mv (.c (.fn 33554432 (.cons (.b true) .nil))))]) (.sq (.rg [Q s1 (.mk),Z (.mi 2 t1 (.c (.s [114,102])) (.c (.fn 104 .nil))),Z (.mi 2 t1 (.c (.s [99,111])) (.c (.fn 105 .nil))),Z (.mi 2 t1 (.c (.s [102,114])) (.c (.fn 106 .nil))),M s2 t1,M s0 t2]) .rt)) [.t s0]
theorem rc63_ok:Zak Tryd.prog 63=some rc63:=by kernel_rfl
def rc74:RF:=.f 1 (.sq (.rg [Q s1 (.bx t0),Q s2 (.mv (.c .np))]) (.sq (.dr [Q s9 (.ld true 8 t1),.q (.d s10) .no .ef (.cl 111 [t9,(k6 1),(.c .ns)]),.q (.d s11) .no (.ck 0 1) (.ld true 8 t1),.q (.d s12) .no .ef (.cl 111 [t11,(k6 2),(.c .ns)]),M s3 t10,M s4 t12]) (.sq (.rg [Q s14 (.ld true 8 t1),Q s15 (.cl 78 [t14]),M s13 t15,Q s16 (.ex 0 t13),Q s17 (.ex 1 t13),Q s18 (.ex 2 t13),Q s19 (.ex 3 t13),M s5 t16,M s6 t17,M s7 t18,M s8 t19]) (.sq (.rg [M s20 t3,M s21 t5,M s22 t3,Q s23 (.bs (.cons .np (.cons .np .nil)) 2 [(0,1,t21),(1,1,t22)]),Q s24 (.cl 109 [t20,t23]),M s25 t3,M s26 t6,M s27 t4,Q s28 (.bs (.cons .np (.cons .np .nil)) 2 [(0,1,t26),(1,1,t27)]),Q s29 (.cl 109 [t25,t28]),Q s30 (.bs (.cons .np .nil) 1 [(0,1,t29)]),Q s31 (.cl 108 [t24,t30]),M s2 t31]) .rt)))) [.t s2]
theorem rc74_ok:Zak Tryd.prog 74=some rc74:=by kernel_rfl
def Xew:RF:=.f 1 (.sq (.rg [Q s2 (.al (.cons (i6 0) (.cons .ns (.cons .ns (.cons .ns (.cons .ns (.cons .ns (.cons .ns (.cons .ns .nil)))))))))]) (.sq (.rg [Q s4 (.bd (.cons (i6 0) (.cons (i6 0) (.cons (i6 0) (.cons (i6 0) (.cons (i6 0) (.cons (.b false) .nil)))))) [(1,1,(k6 2))]),Q s5 (.bd (.cons (i6 0) (.cons (i6 0) (.cons (i6 0) (.cons (i6 0) (.cons (i6 0) (.cons (.b false) .nil)))))) [(1,1,(k6 2)),(3,1,(k6 1))]),Q s6 (.bd (.cons (i6 0) (.cons (i6 0) (.cons (i6 0) (.cons (i6 0) (.cons (i6 0) (.cons (.b false) .nil)))))) [(0,1,(k6 1)),(1,1,(k6 1))]),Q s7 (.bd (.cons (i6 0) (.cons (i6 0) (.cons (i6 0) (.cons (i6 0) (.cons (i6 0) (.cons (.b false) .nil)))))) [(0,1,(k6 1)),(1,1,(k6 2)),(3,1,(k6 1))]),Q s8 (.bs (.cons (i6 0) (.cons (i6 0) (.cons (i6 0) (.cons (i6 0) (.cons (i6 0) (.cons (.b false) (.cons (i6 0) (.cons (i6 0) (.cons (i6 0) (.cons (i6 0) (.cons (i6 0) (.cons (.b false) (.cons (i6 0) (.cons (i6 0) (.cons (i6 0) (.cons (i6 0) (.cons (i6 0) (.cons (.b false) (.cons (i6 0) (.cons (i6 0) (.cons (i6 0) (.cons (i6 0) (.cons (i6 0) (.cons (.b false) .nil)))))))))))))))))))))))) 4 [(0,6,t4),(6,6,t5),(12,6,t6),(18,6,t7)]),Q s9 (.bs (.cons (i6 0) (.cons (i6 0) (.cons (i6 0) (.cons (i6 0) .nil)))) 4 [(0,1,(.c (.i .i64 (.negSucc 0)))),(1,1,(.c (.i .i64 (.negSucc 0)))),(2,1,(k6 0)),(3,1,(.c (.i .i64 (.negSucc 0))))]),Q s10 (.bs (.cons (i6 0) .nil) 1 [(0,1,(k6 0))]),Q s11 (.bs (.cons (i6 0) (.cons (i6 0) .nil)) 2 [(0,1,(k6 1)),(1,1,(k6 3))]),Q s12 (.bs (.cons .ns (.cons .ns .nil)) 2 [(0,1,t10),(1,1,t11)]),Q s13 (.bd (.cons (i6 0) (.cons .ns (.cons .ns (.cons .ns (.cons .ns (.cons .ns (.cons .ns (.cons .ns .nil)))))))) [(0,1,(k6 2)),(1,1,t8),(2,1,t9),(3,1,t12)]),Q s3 (.al (.cons (i6 0) (.cons .ns (.cons .ns (.cons .ns (.cons .ns (.cons .ns (.cons .ns (.cons .ns .nil))))))))),Z (.st 8 t3 t13)]) (.sq (.sq (.rg [M s14 t0,Q s15 (.bn .eql t14 (k6 0))]) (.cd t15 (.rg [Q s16 (.bd (.cons (i6 0) (.cons (i6 0) .nil)) [(0,1,(k6 2)),(1,1,(k6 3))]),Q s17 (.bs (.cons (i6 0) (.cons (i6 0) .nil)) 1 [(0,2,t16)]),Q s18 (.fa 5 t3),Z (.st 1 t18 t17)]) .sk)) (.sq (.sq (.rg [M s19 t0,Q s20 (.bn .eql t19 (k6 1))]) (.cd t20 (.rg [Q s21 (.bd (.cons (i6 0) (.cons (i6 0) .nil)) [(0,1,(k6 2)),(1,1,(k6 3))]),Q s22 (.bs (.cons (i6 0) (.cons (i6 0) .nil)) 1 [(0,2,t21)]),Q s23 (.fa 6 t3),Z (.st 1 t23 t22)]) .sk)) (.sq (.rg [Q s24 (.ld true 8 t3),Z (.st 8 t2 t24)]) .rt))))) [.c s2 true 8]
theorem Ylb:Zak Tryd.prog 75=some Xew:=by kernel_rfl
def rc76:RF:=.f 1 (.sq (.rg [Q s1 (.bx t0),Q s2 (.mv (.c .np))]) (.sq (.dr [Q s3 (.ld true 8 t1),.q (.d s4) .no .ef (.cl 122 [t3]),.q (.d s5) .no (.ck 0 1) (.ld true 8 t1),.q (.d s6) .no .ef (.cl 124 [t5,(.c (.fn 47 .nil))]),.q (.d s7) .no (.ck 0 2) (.ld true 8 t1),.q (.d s8) .no .ef (.cl 124 [t7,(.c (.fn 45 .nil))]),.q (.d s9) .no .ef (.cl 38 [t6,t8]),.q (.d s10) .no .ef (.cl 123 [t4,t9]),M s2 t10]) .rt)) [.t s2]
theorem rc76_ok:Zak Tryd.prog 76=some rc76:=by kernel_rfl
def rc77:RF:=.f 1 (.sq (.rg [Q s1 (.bx t0),Q s2 (.mv (.c .np))]) (.sq (.dr [Q s3 (.ld true 8 t1),.q (.d s4) .no .ef (.cl 122 [t3]),.q (.d s5) .no (.ck 0 1) (.ld true 8 t1),.q (.d s6) .no .ef (.cl 124 [t5,(.c (.fn 51 .nil))]),.q (.d s7) .no (.ck 0 2) (.ld true 8 t1),.q (.d s8) .no .ef (.cl 124 [t7,(.c (.fn 45 .nil))]),.q (.d s9) .no .ef (.cl 38 [t6,t8]),.q (.d s10) .no .ef (.cl 123 [t4,t9]),M s2 t10]) .rt)) [.t s2]
theorem rc77_ok:Zak Tryd.prog 77=some rc77:=by kernel_rfl
def rc78:RF:=.f 1 (.sq (.rg [Q s1 (.bx t0),Q s2 (.mv (.c .np)),Q s3 (.mv (.c .np)),Q s4 (.mv (.c .np)),Q s5 (.mv (.c .np))]) (.sq (.dr [Q s16 (.ld true 8 t1),.q (.d s17) .no .ef (.cl 125 [t16]),.q (.d s18) .no (.ck 0 1) (.ld true 8 t1),Q s19 (.fa 5 t1),.q (.d s20) .no (.ck 0 1) (L t19),.q (.d s21) .no .ef (.cl 29 [t18,t20]),M s6 t17,M s7 t21]) (.sq (.dr [M s22 t7,Q s23 (.ld true 8 t1),.q (.d s24) .no .ef (.cl 76 [t23]),.q (.d s25) .no (.ck 0 2) (.ld true 8 t1),.q (.d s26) .no (.ck 0 1) (.ld true 8 t1),.q (.d s27) .no .ef (.cl 45 [t26]),.q (.d s28) .no .ef (.cl 21 [t25,t27]),Q s29 (.bs (.cons .np (.cons .np .nil)) 2 [(0,1,t24),(1,1,t28)]),.q (.d s30) .no .ef (.cl 108 [t22,t29]),M s8 t30]) (.sq (.rg [Q s31 (.ld true 8 t1),Q s32 (.cl 29 [t31,(.c .ns)]),M s9 t32]) (.sq (.dr [Q s33 (.ld true 8 t1),Q s34 (.fa 7 t1),Q s35 (L t34),.q (.d s36) .no .ef (.cl 29 [t33,t35]),M s37 t6,.q (.d s38) .no .ef (.cl 38 [t36,t37]),.q (.d s39) .no (.ck 0 2) (.ld true 8 t1),.q (.d s40) .no .ef (.cl 77 [t39]),Q s41 (.bs (.cons .np .nil) 1 [(0,1,t40)]),.q (.d s42) .no .ef (.cl 108 [t38,t41]),M s10 t42]) (.sq (.dr [M s43 t7,Q s44 (.ld true 8 t1),.q (.d s45) .no .ef (.cl 122 [t44]),.q (.d s46) .no (.ck 0 1) (.ld true 8 t1),Q s47 (.fa 6 t1),.q (.d s48) .no (.ck 0 1) (L t47),.q (.d s49) .no .ef (.cl 29 [t46,t48]),M s50 t6,.q (.d s51) .no .ef (.cl 38 [t49,t50]),Q s52 (.bs (.cons .np (.cons .np .nil)) 2 [(0,1,t45),(1,1,t51)]),.q (.d s53) .no .ef (.cl 108 [t43,t52]),M s11 t53]) (.sq .sk (.sq (.bl 0 (.lp (.bl 1 (.sq (.rg [M s54 t8,M s55 t10,M s56 t9,M s57 t10,Q s58 (.cl 38 [t56,t57]),M s59 t8,M s60 t8,Q s61 (.cl 38 [t59,t60]),Q s62 (.bs (.cons .np (.cons .np (.cons .np .nil))) 3 [(0,1,t55),(1,1,t58),(2,1,t61)]),Q s63 (.cl 108 [t54,t62]),M s64 t9,M s65 t8,M s66 t11,M s67 t9,M s68 t11,Q s69 (.cl 38 [t67,t68]),M s70 t8,M s71 t9,Q s72 (.cl 38 [t70,t71]),Q s73 (.bs (.cons .np (.cons .np (.cons .np (.cons .np .nil)))) 4 [(0,1,t65),(1,1,t66),(2,1,t69),(3,1,t72)]),Q s74 (.cl 108 [t64,t73]),M s75 t10,M s76 t10,M s77 t8,Q s78 (.cl 38 [t76,t77]),M s79 t11,M s80 t10,Q s81 (.cl 38 [t79,t80]),Q s82 (.bs (.cons .np (.cons .np .nil)) 2 [(0,1,t78),(1,1,t81)]),Q s83 (.cl 108 [t75,t82]),M s84 t11,M s85 t10,M s86 t10,M s87 t9,Q s88 (.cl 38 [t86,t87]),M s89 t11,M s90 t11,Q s91 (.cl 38 [t89,t90]),Q s92 (.bs (.cons .np (.cons .np (.cons .np .nil))) 3 [(0,1,t85),(1,1,t88),(2,1,t91)]),Q s93 (.cl 108 [t84,t92]),Q s94 (.bd (.cons .np (.cons .np (.cons .np (.cons .np .nil)))) [(0,1,t63),(1,1,t74),(2,1,t83),(3,1,t93)]),Q s12 (.al (.cons .np (.cons .np (.cons .np (.cons .np .nil))))),Z (.st 4 t12 t94)]) (.sq (.rg [M s95 t8,M s96 t9,M s97 t10,M s98 t11,Q s99 (.bd (.cons .np (.cons .np (.cons .np (.cons .np .nil)))) [(0,1,t95),(1,1,t96),(2,1,t97),(3,1,t98)]),Q s13 (.al (.cons .np (.cons .np (.cons .np (.cons .np .nil))))),Z (.st 4 t13 t99)]) (.sq (.dr [Q s100 (.ip 4 1 t12 (k6 0)),Q s101 (L t100),Q s102 (.ip 4 1 t12 (k6 1)),Q s103 (L t102),Q s104 (.ip 4 1 t12 (k6 2)),Q s105 (L t104),Q s106 (.ip 4 1 t12 (k6 3)),Q s107 (L t106),M s8 t101,M s9 t103,M s10 t105,M s11 t107]) (.sq (.sq (.rg [Q s108 (.ld true 4 t12),Q s109 (.mv (k6 0))]) (.bl 2 (.lp (.sq (.rg [Q s110 (.bn .lss t109 (k6 4))]) (.sq (.cd t110 .sk (.ex 2)) (.sq (.bl 3 (.sq (.rg [M s111 t109,Q s112 (.ix false 4 1 t108 t109),M s14 t111,M s15 t112]) (.sq (.rg [M s113 t15,M s114 t14,Q s115 (.ip 4 1 t13 t114),Q s116 (L t115),Q s117 (.cl 14 [t113,t116]),Q s118 (.nt t117)]) (.cd t118 (.ex 1) .sk)))) (.rg [Q s119 (.bn .add t109 (k6 1)),M s109 t119]))))))) (.ex 0)))))))) (.sq (.rg [M s120 t8,M s121 t9,M s122 t10,M s123 t11,M s2 t120,M s3 t121,M s4 t122,M s5 t123]) .rt))))))))) [.t s2,.t s3,.t s4,.t s5]
theorem rc78_ok:Zak Tryd.prog 78=some rc78:=by kernel_rfl
def Xes:RF:=.f 2 (.sq (.rg [Q s2 (.bx t0),Q s4 (.mv kF)]) (.sq (.dr [M s5 t1,Q s6 (.bn .leq (k6 0) t5),M s7 t6,om1 s8 s7 t1,oq1 s9 s7 (.fa 0 t2),oq1 s10 s7 (L t9),oq1 s11 s7 (.ln false t10),oq1 s12 s7 (.bn .lss t8 t11),Q s13 (.pick t7 t12 kF),M s14 t13,oq1 s15 s14 (.fa 1 t2),oq1 s16 s14 (L t15),oq1 s17 s14 (.fa 0 t2),oq1 s18 s14 (L t17),om1 s19 s14 t1,oq1 s20 s14 (.ia 6 t18 t19),oq1 s21 s14 (.ld true 6 t20),.q (.d s22) (.g s14 true) .ef (.cf t16 [t21]),Q s23 (.pick t14 t22 kF),M s4 t23]) .rt)) [.t s4]
theorem Yk6:Zak Tryd.prog 86=some Xes:=by kernel_rfl
def Xer:RF:=.f 3 (.sq (.rg [Q s6 (.mv (.c .np))]) (.sq (.dr [M s9 t0,Q s10 (.nc t9),Q s11 (.fa 0 t10),Q s12 (L t11),M s13 t1,Q s14 (.nc t13),Q s15 (.fa 0 t14),Q s16 (L t15),Q s17 (.mm true t12 t16),Q s18 (.bd (.cons (i6 0) (.cons (.i .u64 (.ofNat 0)) (.cons (.i .u64 (.ofNat 0)) (.cons (.i .u64 (.ofNat 0)) (.cons (.i .u64 (.ofNat 0)) (.cons (.i .u64 (.ofNat 0)) (.cons (.i .u64 (.ofNat 0)) (.cons (.i .u64 (.ofNat 0)) (.cons (.i .u64 (.ofNat 0)) (.cons (.i .u64 (.ofNat 0)) (.cons (.i .u64 (.ofNat 0)) (.cons (.i .u64 (.ofNat 0)) (.cons (.i .u64 (.ofNat 0)) (.cons (.i .u64 (.ofNat 0)) (.cons (.i .u64 (.ofNat 0)) (.cons (.i .u64 (.ofNat 0)) (.cons (.i .u64 (.ofNat 0)) (.cons (.i .u64 (.ofNat 0)) (.cons (.i .u64 (.ofNat 0)) (.cons (.i .u64 (.ofNat 0)) (.cons (.i .u64 (.ofNat 0)) (.cons (.i .u64 (.ofNat 0)) (.cons (.i .u64 (.ofNat 0)) (.cons (.i .u64 (.ofNat 0)) (.cons (.i .u64 (.ofNat 0)) (.cons (.i .u64 (.ofNat 0)) (.cons (.i .u64 (.ofNat 0)) (.cons (.i .u64 (.ofNat 0)) (.cons (.i .u64 (.ofNat 0)) (.cons (.i .u64 (.ofNat 0)) (.cons (.i .u64 (.ofNat 0)) (.cons (.i .u64 (.ofNat 0)) (.cons (.i .u64 (.ofNat 0)) (.cons (.i .u64 (.ofNat 0)) (.cons (.i .u64 (.ofNat 0)) (.cons (.i .u64 (.ofNat 0)) (.cons (.i .u64 (.ofNat 0)) (.cons (.i .u64 (.ofNat 0)) (.cons (.i .u64 (.ofNat 0)) (.cons (.i .u64 (.ofNat 0)) (.cons (.i .u64 (.ofNat 0)) .nil))))))))))))))))))))))))))))))))))))))))) [(0,1,t17)]),Q s19 (.bx t18),M s7 t19]) (.sq (.sq (.rg [Q s20 (.mv (k6 0))]) (.bl 0 (.lp (.sq (.rg [Q s21 (.bn .lss t20 (k6 40))]) (.sq (.cd t21 .sk (.ex 0)) (.sq (.bl 1 (.sq (.rg [M s22 t20,M s8 t22]) (.dr [M s23 t7,M s24 t8,M s25 t2,M s26 t0,M s27 t8,Q s28 (.nc t26),Q s29 (.fa 1 t28),Q s30 (.ip 40 1 t29 t27),Q s31 (L t30),M s32 t1,M s33 t8,Q s34 (.nc t32),Q s35 (.fa 1 t34),Q s36 (.ip 40 1 t35 t33),Q s37 (L t36),.q (.d s38) .no .ef (.cf t25 [t31,t37]),Q s39 (.nc t23),Q s40 (.fa 1 t39),Q s41 (.ip 40 1 t40 t24),.q .no .no .ef (.st 1 t41 t38)]))) (.rg [Q s42 (.bn .add t20 (k6 1)),M s20 t42]))))))) (.sq (.rg [M s43 t7,M s6 t43]) .rt)))) [.t s6]
theorem Yk5:Zak Tryd.prog 91=some Xer:=by kernel_rfl
def Xeq:RF:=.f 2 (.sq (.rg [Q s4 (.mv (.c (.i .u64 (.ofNat 0))))]) (.sq (.rg [M s5 t0,M s6 t1,Q s7 (.bn .or t5 t6),M s4 t7]) .rt)) [.t s4]
theorem Yk4:Zak Tryd.prog 92=some Xeq:=by kernel_rfl
def Xep:RF:=.f 1 (.sq (.rg [Q s2 (.mv (k6 0))]) (.sq (.rg [M s3 t0,Q s4 (.nc t3),Q s5 (.fa 0 t4),Q s6 (L t5),M s2 t6]) .rt)) [.t s2]
theorem Yk3:Zak Tryd.prog 94=some Xep:=by kernel_rfl
def Yrz:RF:=.f 2 (.sq (.rg [Q s4 (.mv (.c (.i .u64 (.ofNat 0))))]) (.sq (.rg [M s5 t0,M s6 t1,Q s7 (.bn .andNot t5 t6),M s4 t7]) .rt)) [.t s4]
theorem Ydi:Zak Tryd.prog 103=some Yrz:=by kernel_rfl
def Yry:RF:=.f 1 (.sq (.rg [Q s1 (.bx t0),Q s2 (.mv (.c .np))]) (.sq (.rg [Q s3 (.mv (.c .ns))]) (.sq (.sq (.rg [Q s6 (.fa 2 t1),Q s7 (L t6),Q s8 (.ln false t7),Q s9 (.mv (k6 0))]) (.bl 0 (.lp (.sq (.rg [Q s10 (.bn .lss t9 t8)]) (.sq (.cd t10 .sk (.ex 0)) (.sq (.bl 1 (.sq (.rg [M s11 t9,Q s12 (.ia 1 t7 t9),Q s13 (L t12),M s4 t11,M s5 t13]) (.rg [M s14 t3,M s15 t5,M s16 t4,Q s17 (.bd (.cons (i6 0) (.cons (i6 0) .nil)) [(0,1,t15),(1,1,t16)]),Q s18 (.bs (.cons (i6 0) (.cons (i6 0) .nil)) 1 [(0,2,t17)]),Q s19 (.ap 2 t14 t18),M s3 t19]))) (.rg [Q s20 (.bn .add t9 (k6 1)),M s9 t20]))))))) (.sq (.rg [Q s21 (.ld true 8 t1),M s22 t3,Q s23 (.cl 29 [t21,t22]),M s2 t23]) .rt)))) [.t s2]
theorem Ydh:Zak Tryd.prog 104=some Yry:=by kernel_rfl
def Yrx:RF:=.f 1 (.sq (.rg [Q s1 (.bx t0),Q s2 (.mv (.c .np))]) (.sq (.rg [Q s3 (.mv (.c .ns))]) (.sq (.sq (.rg [Q s10 (.fa 3 t1),Q s11 (L t10),Q s12 (.fa 3 t1),Q s13 (L t12),Q s14 (.ln false t13),Q s15 (.mm false t14 (k6 4)),Q s16 (.sc 1 t11 none (some t15) none),Q s17 (.ln false t16),Q s18 (.mv (k6 0))]) (.bl 0 (.lp (.sq (.rg [Q s19 (.bn .lss t18 t17)]) (.sq (.cd t19 .sk (.ex 0)) (.sq (.bl 1 (.sq (.rg [Q s20 (.ia 1 t16 t18),Q s21 (L t20),M s5 t21]) (.sq (.rg [M s22 t5,M s23 t5,Q s24 (.ln false t23),Q s25 (.mm false t24 (k6 40)),Q s26 (.sc 1 t22 none (some t25) none),M s5 t26]) (.sq (.rg [M s27 t5,Q s28 (.ln false t27),Q s29 (.mv (k6 0))]) (.bl 2 (.lp (.sq (.rg [Q s30 (.bn .lss t29 t28)]) (.sq (.cd t30 .sk (.ex 2)) (.sq (.bl 3 (.sq (.rg [M s31 t29,Q s32 (.ia 1 t27 t29),Q s33 (L t32),M s6 t31,M s7 t33]) (.sq (.rg [M s34 t5,M s35 t6,Q s36 (.bn .add t35 (k6 1)),Q s37 (.sc 1 t34 (some t36) none none),Q s38 (.ln false t37),Q s39 (.mv (k6 0))]) (.bl 4 (.lp (.sq (.rg [Q s40 (.bn .lss t39 t38)]) (.sq (.cd t40 .sk (.ex 4)) (.sq (.bl 5 (.sq (.rg [Q s41 (.ia 1 t37 t39),Q s42 (L t41),M s9 t42]) (.rg [M s43 t3,M s44 t7,M s45 t9,Q s46 (.bd (.cons (i6 0) (.cons (i6 0) .nil)) [(0,1,t44),(1,1,t45)]),Q s47 (.bs (.cons (i6 0) (.cons (i6 0) .nil)) 1 [(0,2,t46)]),Q s48 (.ap 2 t43 t47),M s3 t48]))) (.rg [Q s49 (.bn .add t39 (k6 1)),M s39 t49]))))))))) (.rg [Q s50 (.bn .add t29 (k6 1)),M s29 t50])))))))))) (.rg [Q s51 (.bn .add t18 (k6 1)),M s18 t51]))))))) (.sq (.rg [Q s52 (.ld true 8 t1),M s53 t3,Q s54 (.cl 29 [t52,t53]),M s2 t54]) .rt)))) [.t s2]
theorem Ydg:Zak Tryd.prog 105=some Yrx:=by kernel_rfl
def rc106:RF:=.f 1 (.sq (.rg [Q s1 (.bx t0),Q s2 (.mv (.c .np))]) (.sq (.dr [Q s3 (.ld true 8 t1),.q (.d s4) .no .ef (.cl 104 [t3]),.q (.d s5) .no .ef (.cl 107 [t4]),.q (.d s6) .no (.ck 0 2) (.ld true 8 t1),.q (.d s7) .no .ef (.cl 105 [t6]),.q (.d s8) .no .ef (.cl 38 [t5,t7]),M s2 t8]) .rt)) [.t s2]
theorem rc106_ok:Zak Tryd.prog 106=some rc106:=by kernel_rfl
def Yrw:RF:=.f 1 (.sq (.rg [Q s2 (.mv (.c .np))]) (.sq (.rg [M s6 t0,Q s7 (.nc t6),Q s8 (.fa 0 t7),Q s9 (L t8),Q s10 (.bd (.cons (i6 0) (.cons (.i .u64 (.ofNat 0)) (.cons (.i .u64 (.ofNat 0)) (.cons (.i .u64 (.ofNat 0)) (.cons (.i .u64 (.ofNat 0)) (.cons (.i .u64 (.ofNat 0)) (.cons (.i .u64 (.ofNat 0)) (.cons (.i .u64 (.ofNat 0)) (.cons (.i .u64 (.ofNat 0)) (.cons (.i .u64 (.ofNat 0)) (.cons (.i .u64 (.ofNat 0)) (.cons (.i .u64 (.ofNat 0)) (.cons (.i .u64 (.ofNat 0)) (.cons (.i .u64 (.ofNat 0)) (.cons (.i .u64 (.ofNat 0)) (.cons (.i .u64 (.ofNat 0)) (.cons (.i .u64 (.ofNat 0)) (.cons (.i .u64 (.ofNat 0)) (.cons (.i .u64 (.ofNat 0)) (.cons (.i .u64 (.ofNat 0)) (.cons (.i .u64 (.ofNat 0)) (.cons (.i .u64 (.ofNat 0)) (.cons (.i .u64 (.ofNat 0)) (.cons (.i .u64 (.ofNat 0)) (.cons (.i .u64 (.ofNat 0)) (.cons (.i .u64 (.ofNat 0)) (.cons (.i .u64 (.ofNat 0)) (.cons (.i .u64 (.ofNat 0)) (.cons (.i .u64 (.ofNat 0)) (.cons (.i .u64 (.ofNat 0)) (.cons (.i .u64 (.ofNat 0)) (.cons (.i .u64 (.ofNat 0)) (.cons (.i .u64 (.ofNat 0)) (.cons (.i .u64 (.ofNat 0)) (.cons (.i .u64 (.ofNat 0)) (.cons (.i .u64 (.ofNat 0)) (.cons (.i .u64 (.ofNat 0)) (.cons (.i .u64 (.ofNat 0)) (.cons (.i .u64 (.ofNat 0)) (.cons (.i .u64 (.ofNat 0)) (.cons (.i .u64 (.ofNat 0)) .nil))))))))))))))))))))))))))))))))))))))))) [(0,1,t9)]),Q s11 (.bx t10),M s3 t11]) (.sq (.sq (.rg [M s12 t0,Q s13 (.nc t12),Q s14 (.fa 1 t13),Q s15 (.ld true 40 t14),Q s16 (.mv (k6 0))]) (.bl 0 (.lp (.sq (.rg [Q s17 (.bn .lss t16 (k6 40))]) (.sq (.cd t17 .sk (.ex 0)) (.sq (.bl 1 (.sq (.rg [M s18 t16,Q s19 (.ix false 40 1 t15 t16),M s4 t18,M s5 t19]) (.bl 2 (.lp (.sq (.sq (.rg [M s20 t5,Q s21 (.bn .neq t20 (.c (.i .u64 (.ofNat 0))))]) (.cd t21 .sk (.ex 2))) (.sq (.bl 3 (.dr [M s26 t3,M s27 t5,.q (.d s28) .no .ef (.cl 36 [t27]),Q s29 (.nc t26),Q s30 (.fa 1 t29),Q s31 (.ip 40 1 t30 t28),Q s32 (L t31),M s33 t4,Q s34 (.bn .shl (.c (.i .u64 (.ofNat 1))) t33),Q s35 (.bn .or t32 t34),Q s36 (.nc t26),Q s37 (.fa 1 t36),Q s38 (.ip 40 1 t37 t28),.q .no .no .ef (.st 1 t38 t35)])) (.rg [M s22 t5,M s23 t5,Q s24 (.bn .sub t23 (.c (.i .u64 (.ofNat 1)))),Q s25 (.bn .and t22 t24),M s5 t25]))))))) (.rg [Q s39 (.bn .add t16 (k6 1)),M s16 t39]))))))) (.sq (.rg [M s40 t3,M s2 t40]) .rt)))) [.t s2]
theorem Ydf:Zak Tryd.prog 107=some Yrw:=by kernel_rfl
def rc108:RF:=.f 2 (.sq (.rg [Q s4 (.mv (.c .np))]) (.sq (.sq (.rg [M s7 t1,Q s8 (.ln false t7),Q s9 (.mv (k6 0))]) (.bl 0 (.lp (.sq (.rg [Q s10 (.bn .lss t9 t8)]) (.sq (.cd t10 .sk (.ex 0)) (.sq (.bl 1 (.sq (.rg [Q s11 (.ia 1 t7 t9),Q s12 (L t11),M s6 t12]) (.rg [M s13 t0,M s14 t6,Q s15 (.cl 37 [t13,t14]),M s0 t15]))) (.rg [Q s16 (.bn .add t9 (k6 1)),M s9 t16]))))))) (.sq (.rg [M s17 t0,M s4 t17]) .rt))) [.t s4]
theorem rc108_ok:Zak Tryd.prog 108=some rc108:=by kernel_rfl
def rc109:RF:=.f 2 (.sq (.rg [Q s4 (.mv (.c .np))]) (.sq (.sq (.rg [M s7 t1,Q s8 (.ln false t7),Q s9 (.mv (k6 0))]) (.bl 0 (.lp (.sq (.rg [Q s10 (.bn .lss t9 t8)]) (.sq (.cd t10 .sk (.ex 0)) (.sq (.bl 1 (.sq (.rg [Q s11 (.ia 1 t7 t9),Q s12 (L t11),M s6 t12]) (.rg [M s13 t0,M s14 t6,Q s15 (.cl 38 [t13,t14]),M s0 t15]))) (.rg [Q s16 (.bn .add t9 (k6 1)),M s9 t16]))))))) (.sq (.rg [M s17 t0,M s4 t17]) .rt))) [.t s4]
theorem rc109_ok:Zak Tryd.prog 109=some rc109:=by kernel_rfl
def Yrv:RF:=.f 3 (.sq (.rg [Q s3 (.bx t0),Q s4 (.bx t1),Q s5 (.bx t2),Q s6 (.mv (.c .np))]) (.sq (.rg [Q s7 (.ld true 8 t3),Q s8 (.mf 138 [t4,t5]),Q s9 (.cl 137 [t7,t8]),M s6 t9]) .rt)) [.t s6]
theorem Yde:Zak Tryd.prog 111=some Yrv:=by kernel_rfl
def rc122:RF:=.f 1 (.sq (.rg [Q s1 (.bx t0),Q s2 (.mv (.c .np))]) (.sq (.dr [.q (.d s3) .no (.ck 0 1) (.ld true 8 t1),Q s4 (.ld true 8 t1),.q (.d s5) .no .ef (.cl 23 [t4]),.q (.d s6) .no .ef (.cl 21 [t3,t5]),M s2 t6]) .rt)) [.t s2]
theorem rc122_ok:Zak Tryd.prog 122=some rc122:=by kernel_rfl
def Yrt:RF:=.f 2 (.sq (.rg [Q s4 (.mv (.c .np))]) (.sq (.rg [M s5 t0,M s6 t1,Q s7 (.cl 91 [t5,t6,(.c (.fn 140 .nil))]),M s4 t7]) .rt)) [.t s4]
theorem Ydc:Zak Tryd.prog 123=some Yrt:=by kernel_rfl
def rc124:RF:=.f 2 (.sq (.rg [Q s2 (.bx t0),Q s4 (.mv (.c .np))]) (.sq (.dr [.q (.d s5) .no (.ck 0 1) (.ld true 8 t2),M s6 t1,Q s7 (.ld true 8 t2),.q (.d s8) .no .ef (.cf t6 [t7]),.q (.d s9) .no .ef (.cl 22 [t5,t8]),M s4 t9]) .rt)) [.t s4]
theorem rc124_ok:Zak Tryd.prog 124=some rc124:=by kernel_rfl
def rc125:RF:=.f 1 (.sq (.rg [Q s1 (.bx t0),Q s2 (.mv (.c .np))]) (.sq (.dr [Q s3 (.ld true 8 t1),.q (.d s4) .no .ef (.cl 111 [t3,(k6 1),(.c .ns)]),.q (.d s5) .no (.ck 0 1) (.ld true 8 t1),.q (.d s6) .no .ef (.cl 111 [t5,(k6 2),(.c .ns)]),.q (.d s7) .no .ef (.cl 37 [t4,t6]),M s2 t7]) .rt)) [.t s2]
theorem rc125_ok:Zak Tryd.prog 125=some rc125:=by kernel_rfl
def Yrn:RF:=.f 2 (.sq (.rg [Q s2 (.bx t0),Q s4 (.mv (.c .np))]) (.sq (.rg [Q s8 (.fa 1 t2),Q s9 (L t8),Q s10 (.fa 1 t2),Q s11 (L t10),Q s12 (.ln false t11),Q s13 (.mm false t12 (k6 40)),Q s14 (.sc 6 t9 none (some t13) none),M s15 t1,Q s16 (.bd (.cons .ns (.cons .nf .nil)) [(0,1,t14),(1,1,t15)]),Q s5 (.al (.cons .ns (.cons .nf .nil))),Z (.st 2 t5 t16)]) (.sq (.rg [Q s6 (.mv (.c .ns))]) (.sq (.sq (.rg [Q s17 (.fa 0 t5),Q s18 (L t17),Q s19 (.ln false t18),Q s20 (.mv (k6 0))]) (.bl 0 (.lp (.sq (.rg [Q s21 (.bn .lss t20 t19)]) (.sq (.cd t21 .sk (.ex 0)) (.sq (.bl 1 (.sq (.rg [M s22 t20,M s7 t22]) (.sq (.rg [Q s23 (.ld true 2 t5),M s24 t7,Q s25 (.cl 86 [t23,t24])]) (.cd t25 (.rg [M s26 t6,M s27 t7,M s28 t7,Q s29 (.bd (.cons (i6 0) (.cons (i6 0) .nil)) [(0,1,t27),(1,1,t28)]),Q s30 (.bs (.cons (i6 0) (.cons (i6 0) .nil)) 1 [(0,2,t29)]),Q s31 (.ap 2 t26 t30),M s6 t31]) .sk)))) (.rg [Q s32 (.bn .add t20 (k6 1)),M s20 t32]))))))) (.sq (.rg [Q s33 (.ld true 8 t2),M s34 t6,Q s35 (.cl 29 [t33,t34]),M s4 t35]) .rt))))) [.t s4]
theorem Yc6:Zak Tryd.prog 137=some Yrn:=by kernel_rfl
def Yrm:RF:=.f 3 (.sq (.rg [Q s3 (.bx t0),Q s4 (.mv kF)]) (.sq (.rg [Q s5 (.fa 1 t3),Q s6 (L t5),Q s7 (L t1),Q s8 (.bn .eql t6 t7),M s9 t8,oq1 s10 s9 (L t2),oq1 s11 s9 (.ln false t10),oq1 s12 s9 (.bn .eql t11 (k6 0)),om1 s13 s9 t12,oq2 s14 s13 (L t2),oq2 s15 s13 (.fa 2 t3),oq2 s16 s13 (L t15),oq2 s17 s13 (.cl 139 [t14,t16]),oq1 s18 s9 (.pick t13 kT t17),Q s19 (.pick t9 t18 kF),M s4 t19]) .rt)) [.t s4]
theorem Yc5:Zak Tryd.prog 138=some Yrm:=by kernel_rfl
def Yrl:RF:=.f 2 (.sq (.rg [Q s4 (.mv kF)]) (.sq (.rg [M s5 t0,M s6 t1,Q s7 (.cl 145 [t5,t6]),Q s8 (.bn .geq t7 (k6 0)),M s4 t8]) .rt)) [.t s4]
theorem Yc4:Zak Tryd.prog 139=some Yrl:=by kernel_rfl
def Yrk:RF:=.f 2 (.sq (.rg [Q s4 (.mv (.c (.i .u64 (.ofNat 0))))]) (.sq (.rg [M s5 t0,M s6 t1,Q s7 (.bn .and t5 t6),M s4 t7]) .rt)) [.t s4]
theorem Yc3:Zak Tryd.prog 140=some Yrk:=by kernel_rfl
def Yrj:RF:=.f 2 (.sq (.rg [Q s4 (.mv (k6 0))]) (.sq (.sq (.rg [M s6 t0,Q s7 (.ln false t6),Q s8 (.mv (k6 0))]) (.bl 0 (.lp (.sq (.rg [Q s9 (.bn .lss t8 t7)]) (.sq (.cd t9 .sk (.ex 0)) (.sq (.bl 1 (.sq (.rg [M s10 t8,M s5 t10]) (.sq (.rg [M s11 t1,M s12 t0,M s13 t5,Q s14 (.ia 1 t12 t13),Q s15 (L t14),Q s16 (.bn .eql t11 t15)]) (.cd t16 (.sq (.rg [M s17 t5,M s4 t17]) .rt) .sk)))) (.rg [Q s18 (.bn .add t8 (k6 1)),M s8 t18]))))))) (.sq (.rg [Q s4 (.mv (.c (.i .i64 (.negSucc 0))))]) .rt))) [.t s4]
theorem Yc2:Zak Tryd.prog 145=some Yrj:=by kernel_rfl
def fsL:List (Nat × RF):=[(9,rc9),(11,Xfg),(14,Xff),(20,Xfe),(21,Xfd),(22,rc22),(23,Xfc),(27,Xfb),(29,rc29),(35,Xe9),(36,Xe8),(37,Xe7),(38,Xe6),(45,rc45),(46,Xe5),(47,rc47),(51,rc51),(58,Xe1),(59,Xe0),(60,Xez),(61,Xey),(62,Xex),(63,rc63),(74,rc74),(75,Xew),(76,rc76),(77,rc77),(78,rc78),(86,Xes),(91,Xer),(92,Xeq),(94,Xep),(103,Yrz),(104,Yry),(105,Yrx),(106,rc106),(107,Yrw),(108,rc108),(109,rc109),(111,Yrv),(122,rc122),(123,Yrt),(124,rc124),(125,rc125),(137,Yrn),(138,Yrm),(139,Yrl),(140,Yrk),(145,Yrj)]
theorem fsL_ok:∀ e ∈ fsL,Zak Tryd.prog e.1=some e.2:=by
 unfold fsL
 refine List.forall_mem_cons.2 ⟨Ys6,?_⟩
 refine List.forall_mem_cons.2 ⟨Ylv,?_⟩
 refine List.forall_mem_cons.2 ⟨Ylu,?_⟩
 refine List.forall_mem_cons.2 ⟨Ylt,?_⟩
 refine List.forall_mem_cons.2 ⟨Yls,?_⟩
 refine List.forall_mem_cons.2 ⟨rc22_ok,?_⟩
 refine List.forall_mem_cons.2 ⟨Ylr,?_⟩
 refine List.forall_mem_cons.2 ⟨Ylq,?_⟩
 refine List.forall_mem_cons.2 ⟨rc29_ok,?_⟩
 refine List.forall_mem_cons.2 ⟨Ylo,?_⟩
 refine List.forall_mem_cons.2 ⟨Yln,?_⟩
 refine List.forall_mem_cons.2 ⟨Ylm,?_⟩
 refine List.forall_mem_cons.2 ⟨Yll,?_⟩
 refine List.forall_mem_cons.2 ⟨rc45_ok,?_⟩
 refine List.forall_mem_cons.2 ⟨Ylk,?_⟩
 refine List.forall_mem_cons.2 ⟨rc47_ok,?_⟩
 refine List.forall_mem_cons.2 ⟨rc51_ok,?_⟩
 refine List.forall_mem_cons.2 ⟨Ylg,?_⟩
 refine List.forall_mem_cons.2 ⟨Ylf,?_⟩
 refine List.forall_mem_cons.2 ⟨Yle,?_⟩
 refine List.forall_mem_cons.2 ⟨Yld,?_⟩
 refine List.forall_mem_cons.2 ⟨Ylc,?_⟩
 refine List.forall_mem_cons.2 ⟨rc63_ok,?_⟩
 refine List.forall_mem_cons.2 ⟨rc74_ok,?_⟩
 refine List.forall_mem_cons.2 ⟨Ylb,?_⟩
 refine List.forall_mem_cons.2 ⟨rc76_ok,?_⟩
 refine List.forall_mem_cons.2 ⟨rc77_ok,?_⟩
 refine List.forall_mem_cons.2 ⟨rc78_ok,?_⟩
 refine List.forall_mem_cons.2 ⟨Yk6,?_⟩
 refine List.forall_mem_cons.2 ⟨Yk5,?_⟩
 refine List.forall_mem_cons.2 ⟨Yk4,?_⟩
 refine List.forall_mem_cons.2 ⟨Yk3,?_⟩
 refine List.forall_mem_cons.2 ⟨Ydi,?_⟩
 refine List.forall_mem_cons.2 ⟨Ydh,?_⟩
 refine List.forall_mem_cons.2 ⟨Ydg,?_⟩
 refine List.forall_mem_cons.2 ⟨rc106_ok,?_⟩
 refine List.forall_mem_cons.2 ⟨Ydf,?_⟩
 refine List.forall_mem_cons.2 ⟨rc108_ok,?_⟩
 refine List.forall_mem_cons.2 ⟨rc109_ok,?_⟩
 refine List.forall_mem_cons.2 ⟨Yde,?_⟩
 refine List.forall_mem_cons.2 ⟨rc122_ok,?_⟩
 refine List.forall_mem_cons.2 ⟨Ydc,?_⟩
 refine List.forall_mem_cons.2 ⟨rc124_ok,?_⟩
 refine List.forall_mem_cons.2 ⟨rc125_ok,?_⟩
 refine List.forall_mem_cons.2 ⟨Yc6,?_⟩
 refine List.forall_mem_cons.2 ⟨Yc5,?_⟩
 refine List.forall_mem_cons.2 ⟨Yc4,?_⟩
 refine List.forall_mem_cons.2 ⟨Yc3,?_⟩
 refine List.forall_mem_cons.2 ⟨Yc2,?_⟩
 exact fun _ h=>(by cases h)
end Go.Proofs.YthcnhbclagegeaaDoor.txt
