/-
  The functions that some laws reach, but for those that are told, in the evaluator's own form, and that this is what the program's text becomes. Conditions: none; these are closed facts.
-/
import Derived.Test.YthcnhbclagegeaaGreatDoorRnZi
import Derived.Test.YthcnhbclagegeaaGreatDoorProg
namespace Go.Proofs.YthcnhbclagegeaaGreatDoor.txtP
open Go.Rn
def s0:Pa:=.z
def s1:Pa:=(.o .z)
def s2:Pa:=(.i .z)
def s3:Pa:=(.o (.o .z))
def s4:Pa:=(.i (.o .z))
def s5:Pa:=(.o (.i .z))
def s6:Pa:=(.i (.i .z))
def s7:Pa:=(.o (.o (.o .z)))
def s8:Pa:=(.i (.o (.o .z)))
def s9:Pa:=(.o (.i (.o .z)))
def s10:Pa:=(.i (.i (.o .z)))
def s11:Pa:=(.o (.o (.i .z)))
def s12:Pa:=(.i (.o (.i .z)))
def s13:Pa:=(.o (.i (.i .z)))
def s14:Pa:=(.i (.i (.i .z)))
def s15:Pa:=(.o (.o (.o (.o .z))))
def s16:Pa:=(.i (.o (.o (.o .z))))
def s17:Pa:=(.o (.i (.o (.o .z))))
def s18:Pa:=(.i (.i (.o (.o .z))))
def s19:Pa:=(.o (.o (.i (.o .z))))
def s20:Pa:=(.i (.o (.i (.o .z))))
def s21:Pa:=(.o (.i (.i (.o .z))))
def s22:Pa:=(.i (.i (.i (.o .z))))
def s23:Pa:=(.o (.o (.o (.i .z))))
def s24:Pa:=(.i (.o (.o (.i .z))))
def s25:Pa:=(.o (.i (.o (.i .z))))
def s26:Pa:=(.i (.i (.o (.i .z))))
def s27:Pa:=(.o (.o (.i (.i .z))))
def s28:Pa:=(.i (.o (.i (.i .z))))
def s29:Pa:=(.o (.i (.i (.i .z))))
def s30:Pa:=(.i (.i (.i (.i .z))))
def s31:Pa:=(.o (.o (.o (.o (.o .z)))))
def s32:Pa:=(.i (.o (.o (.o (.o .z)))))
def s33:Pa:=(.o (.i (.o (.o (.o .z)))))
def s34:Pa:=(.i (.i (.o (.o (.o .z)))))
def s35:Pa:=(.o (.o (.i (.o (.o .z)))))
def s36:Pa:=(.i (.o (.i (.o (.o .z)))))
def s37:Pa:=(.o (.i (.i (.o (.o .z)))))
def s38:Pa:=(.i (.i (.i (.o (.o .z)))))
def s39:Pa:=(.o (.o (.o (.i (.o .z)))))
def s40:Pa:=(.i (.o (.o (.i (.o .z)))))
def s41:Pa:=(.o (.i (.o (.i (.o .z)))))
def s42:Pa:=(.i (.i (.o (.i (.o .z)))))
def s43:Pa:=(.o (.o (.i (.i (.o .z)))))
def s44:Pa:=(.i (.o (.i (.i (.o .z)))))
def s45:Pa:=(.o (.i (.i (.i (.o .z)))))
def s46:Pa:=(.i (.i (.i (.i (.o .z)))))
def s47:Pa:=(.o (.o (.o (.o (.i .z)))))
def s48:Pa:=(.i (.o (.o (.o (.i .z)))))
def s49:Pa:=(.o (.i (.o (.o (.i .z)))))
def s50:Pa:=(.i (.i (.o (.o (.i .z)))))
def s51:Pa:=(.o (.o (.i (.o (.i .z)))))
def s52:Pa:=(.i (.o (.i (.o (.i .z)))))
def s53:Pa:=(.o (.i (.i (.o (.i .z)))))
def s54:Pa:=(.i (.i (.i (.o (.i .z)))))
def s55:Pa:=(.o (.o (.o (.i (.i .z)))))
def s56:Pa:=(.i (.o (.o (.i (.i .z)))))
def s57:Pa:=(.o (.i (.o (.i (.i .z)))))
def s58:Pa:=(.i (.i (.o (.i (.i .z)))))
def s59:Pa:=(.o (.o (.i (.i (.i .z)))))
def s60:Pa:=(.i (.o (.i (.i (.i .z)))))
def s61:Pa:=(.o (.i (.i (.i (.i .z)))))
def s62:Pa:=(.i (.i (.i (.i (.i .z)))))
def s63:Pa:=(.o (.o (.o (.o (.o (.o .z))))))
def s64:Pa:=(.i (.o (.o (.o (.o (.o .z))))))
def s65:Pa:=(.o (.i (.o (.o (.o (.o .z))))))
def s66:Pa:=(.i (.i (.o (.o (.o (.o .z))))))
def s67:Pa:=(.o (.o (.i (.o (.o (.o .z))))))
def s68:Pa:=(.i (.o (.i (.o (.o (.o .z))))))
def s69:Pa:=(.o (.i (.i (.o (.o (.o .z))))))
def s70:Pa:=(.i (.i (.i (.o (.o (.o .z))))))
def s71:Pa:=(.o (.o (.o (.i (.o (.o .z))))))
def s72:Pa:=(.i (.o (.o (.i (.o (.o .z))))))
def s73:Pa:=(.o (.i (.o (.i (.o (.o .z))))))
def s74:Pa:=(.i (.i (.o (.i (.o (.o .z))))))
def s75:Pa:=(.o (.o (.i (.i (.o (.o .z))))))
def s76:Pa:=(.i (.o (.i (.i (.o (.o .z))))))
def s77:Pa:=(.o (.i (.i (.i (.o (.o .z))))))
def s78:Pa:=(.i (.i (.i (.i (.o (.o .z))))))
def s79:Pa:=(.o (.o (.o (.o (.i (.o .z))))))
def s80:Pa:=(.i (.o (.o (.o (.i (.o .z))))))
def s81:Pa:=(.o (.i (.o (.o (.i (.o .z))))))
def s82:Pa:=(.i (.i (.o (.o (.i (.o .z))))))
def s83:Pa:=(.o (.o (.i (.o (.i (.o .z))))))
def s84:Pa:=(.i (.o (.i (.o (.i (.o .z))))))
def s85:Pa:=(.o (.i (.i (.o (.i (.o .z))))))
def s86:Pa:=(.i (.i (.i (.o (.i (.o .z))))))
def s87:Pa:=(.o (.o (.o (.i (.i (.o .z))))))
def s88:Pa:=(.i (.o (.o (.i (.i (.o .z))))))
def s89:Pa:=(.o (.i (.o (.i (.i (.o .z))))))
def s90:Pa:=(.i (.i (.o (.i (.i (.o .z))))))
def s91:Pa:=(.o (.o (.i (.i (.i (.o .z))))))
def s92:Pa:=(.i (.o (.i (.i (.i (.o .z))))))
def s93:Pa:=(.o (.i (.i (.i (.i (.o .z))))))
def s94:Pa:=(.i (.i (.i (.i (.i (.o .z))))))
def s95:Pa:=(.o (.o (.o (.o (.o (.i .z))))))
def s96:Pa:=(.i (.o (.o (.o (.o (.i .z))))))
def s97:Pa:=(.o (.i (.o (.o (.o (.i .z))))))
def s98:Pa:=(.i (.i (.o (.o (.o (.i .z))))))
def s99:Pa:=(.o (.o (.i (.o (.o (.i .z))))))
def Yoj:Pa:=(.i (.o (.i (.o (.o (.i .z))))))
def Yoi:Pa:=(.o (.i (.i (.o (.o (.i .z))))))
def Yoh:Pa:=(.i (.i (.i (.o (.o (.i .z))))))
def Yog:Pa:=(.o (.o (.o (.i (.o (.i .z))))))
def Yof:Pa:=(.i (.o (.o (.i (.o (.i .z))))))
def Yoe:Pa:=(.o (.i (.o (.i (.o (.i .z))))))
def Yod:Pa:=(.i (.i (.o (.i (.o (.i .z))))))
def Yoc:Pa:=(.o (.o (.i (.i (.o (.i .z))))))
def Yob:Pa:=(.i (.o (.i (.i (.o (.i .z))))))
def Ynb:Pa:=(.o (.i (.i (.i (.o (.i .z))))))
def Yoa:Pa:=(.i (.i (.i (.i (.o (.i .z))))))
def Yn9:Pa:=(.o (.o (.o (.o (.i (.i .z))))))
def Yn8:Pa:=(.i (.o (.o (.o (.i (.i .z))))))
def Yn7:Pa:=(.o (.i (.o (.o (.i (.i .z))))))
def Yn6:Pa:=(.i (.i (.o (.o (.i (.i .z))))))
def Yn5:Pa:=(.o (.o (.i (.o (.i (.i .z))))))
def Yn4:Pa:=(.i (.o (.i (.o (.i (.i .z))))))
def Yn3:Pa:=(.o (.i (.i (.o (.i (.i .z))))))
def Yn2:Pa:=(.i (.i (.i (.o (.i (.i .z))))))
def Yn1:Pa:=(.o (.o (.o (.i (.i (.i .z))))))
def Yn0:Pa:=(.i (.o (.o (.i (.i (.i .z))))))
def Ynz:Pa:=(.o (.i (.o (.i (.i (.i .z))))))
def Yny:Pa:=(.i (.i (.o (.i (.i (.i .z))))))
def Ynx:Pa:=(.o (.o (.i (.i (.i (.i .z))))))
def Yt7:Pa:=(.i (.o (.i (.i (.i (.i .z))))))
def Yt6:Pa:=(.o (.i (.i (.i (.i (.i .z))))))
def Yt5:Pa:=(.i (.i (.i (.i (.i (.i .z))))))
def Yt4:Pa:=(.o (.o (.o (.o (.o (.o (.o .z)))))))
def Yt3:Pa:=(.i (.o (.o (.o (.o (.o (.o .z)))))))
def Yt2:Pa:=(.o (.i (.o (.o (.o (.o (.o .z)))))))
def Yt1:Pa:=(.i (.i (.o (.o (.o (.o (.o .z)))))))
def Yt0:Pa:=(.o (.o (.i (.o (.o (.o (.o .z)))))))
def Ytz:Pa:=(.i (.o (.i (.o (.o (.o (.o .z)))))))
def Yty:Pa:=(.o (.i (.i (.o (.o (.o (.o .z)))))))
def Ytx:Pa:=(.i (.i (.i (.o (.o (.o (.o .z)))))))
def Ytw:Pa:=(.o (.o (.o (.i (.o (.o (.o .z)))))))
def Ytv:Pa:=(.i (.o (.o (.i (.o (.o (.o .z)))))))
def Ytu:Pa:=(.o (.i (.o (.i (.o (.o (.o .z)))))))
def Ytt:Pa:=(.i (.i (.o (.i (.o (.o (.o .z)))))))
def Yts:Pa:=(.o (.o (.i (.i (.o (.o (.o .z)))))))
def Ytr:Pa:=(.i (.o (.i (.i (.o (.o (.o .z)))))))
def Ytq:Pa:=(.o (.i (.i (.i (.o (.o (.o .z)))))))
def Ytp:Pa:=(.i (.i (.i (.i (.o (.o (.o .z)))))))
def Yto:Pa:=(.o (.o (.o (.o (.i (.o (.o .z)))))))
def Ytn:Pa:=(.i (.o (.o (.o (.i (.o (.o .z)))))))
def Ytm:Pa:=(.o (.i (.o (.o (.i (.o (.o .z)))))))
def Ytl:Pa:=(.i (.i (.o (.o (.i (.o (.o .z)))))))
def Ytk:Pa:=(.o (.o (.i (.o (.i (.o (.o .z)))))))
def Ytj:Pa:=(.i (.o (.i (.o (.i (.o (.o .z)))))))
def Yd2:Pa:=(.o (.i (.i (.o (.i (.o (.o .z)))))))
def Yti:Pa:=(.i (.i (.i (.o (.i (.o (.o .z)))))))
def Yth:Pa:=(.o (.o (.o (.i (.i (.o (.o .z)))))))
def Ytg:Pa:=(.i (.o (.o (.i (.i (.o (.o .z)))))))
def Ytf:Pa:=(.o (.i (.o (.i (.i (.o (.o .z)))))))
def Yte:Pa:=(.i (.i (.o (.i (.i (.o (.o .z)))))))
def Ytd:Pa:=(.o (.o (.i (.i (.i (.o (.o .z)))))))
def Yd1:Pa:=(.i (.o (.i (.i (.i (.o (.o .z)))))))
def Ytc:Pa:=(.o (.i (.i (.i (.i (.o (.o .z)))))))
def Ytb:Pa:=(.i (.i (.i (.i (.i (.o (.o .z)))))))
def Yta:Pa:=(.o (.o (.o (.o (.o (.i (.o .z)))))))
def Ys9:Pa:=(.i (.o (.o (.o (.o (.i (.o .z)))))))
def Ys8:Pa:=(.o (.i (.o (.o (.o (.i (.o .z)))))))
def Ys7:Pa:=(.i (.i (.o (.o (.o (.i (.o .z)))))))
def Yd0:Pa:=(.o (.o (.i (.o (.o (.i (.o .z)))))))
def Ys6:Pa:=(.i (.o (.i (.o (.o (.i (.o .z)))))))
def Ys5:Pa:=(.o (.i (.i (.o (.o (.i (.o .z)))))))
def Ys4:Pa:=(.i (.i (.i (.o (.o (.i (.o .z)))))))
def Ys3:Pa:=(.o (.o (.o (.i (.o (.i (.o .z)))))))
def Ys2:Pa:=(.i (.o (.o (.i (.o (.i (.o .z)))))))
def Ys1:Pa:=(.o (.i (.o (.i (.o (.i (.o .z)))))))
def Ys0:Pa:=(.i (.i (.o (.i (.o (.i (.o .z)))))))
def Ysz:Pa:=(.o (.o (.i (.i (.o (.i (.o .z)))))))
def t0:RO:=.t s0
def t1:RO:=.t s1
def t2:RO:=.t s2
def t3:RO:=.t s3
def t4:RO:=.t s4
def t5:RO:=.t s5
def t6:RO:=.t s6
def t7:RO:=.t s7
def t8:RO:=.t s8
def t9:RO:=.t s9
def t10:RO:=.t s10
def t11:RO:=.t s11
def t12:RO:=.t s12
def t13:RO:=.t s13
def t14:RO:=.t s14
def t15:RO:=.t s15
def t16:RO:=.t s16
def t17:RO:=.t s17
def t18:RO:=.t s18
def t19:RO:=.t s19
def t20:RO:=.t s20
def t21:RO:=.t s21
def t22:RO:=.t s22
def t23:RO:=.t s23
def t24:RO:=.t s24
def t25:RO:=.t s25
def t26:RO:=.t s26
def t27:RO:=.t s27
def t28:RO:=.t s28
def t29:RO:=.t s29
def t30:RO:=.t s30
def t31:RO:=.t s31
def t32:RO:=.t s32
def t33:RO:=.t s33
def t34:RO:=.t s34
def t35:RO:=.t s35
def t36:RO:=.t s36
def t37:RO:=.t s37
def t38:RO:=.t s38
def t39:RO:=.t s39
def t40:RO:=.t s40
def t41:RO:=.t s41
def t42:RO:=.t s42
def t43:RO:=.t s43
def t44:RO:=.t s44
def t45:RO:=.t s45
def t46:RO:=.t s46
def t47:RO:=.t s47
def t48:RO:=.t s48
def t49:RO:=.t s49
def t50:RO:=.t s50
def t51:RO:=.t s51
def t52:RO:=.t s52
def t53:RO:=.t s53
def t54:RO:=.t s54
def t55:RO:=.t s55
def t56:RO:=.t s56
def t57:RO:=.t s57
def t58:RO:=.t s58
def t59:RO:=.t s59
def t60:RO:=.t s60
def t61:RO:=.t s61
def t62:RO:=.t s62
def t63:RO:=.t s63
def t64:RO:=.t s64
def t65:RO:=.t s65
def t66:RO:=.t s66
def t67:RO:=.t s67
def t68:RO:=.t s68
def t69:RO:=.t s69
def t70:RO:=.t s70
def t71:RO:=.t s71
def t72:RO:=.t s72
def t73:RO:=.t s73
def t74:RO:=.t s74
def t75:RO:=.t s75
def t76:RO:=.t s76
def t77:RO:=.t s77
def t78:RO:=.t s78
def t79:RO:=.t s79
def t80:RO:=.t s80
def t81:RO:=.t s81
def t82:RO:=.t s82
def t83:RO:=.t s83
def t84:RO:=.t s84
def t85:RO:=.t s85
def t86:RO:=.t s86
def t87:RO:=.t s87
def t88:RO:=.t s88
def t89:RO:=.t s89
def t90:RO:=.t s90
def t91:RO:=.t s91
def t92:RO:=.t s92
def t93:RO:=.t s93
def t94:RO:=.t s94
def t95:RO:=.t s95
def t96:RO:=.t s96
def t97:RO:=.t s97
def t98:RO:=.t s98
def t99:RO:=.t s99
def Ysy:RO:=.t Yoj
def Ysx:RO:=.t Yoi
def Ysw:RO:=.t Yoh
def Ysv:RO:=.t Yog
def Ysu:RO:=.t Yof
def Yst:RO:=.t Yoe
def Yss:RO:=.t Yod
def Ysr:RO:=.t Yoc
def Ysq:RO:=.t Yob
def Yhy:RO:=.t Ynb
def Ysp:RO:=.t Yoa
def Yso:RO:=.t Yn9
def Ysn:RO:=.t Yn8
def Ysm:RO:=.t Yn7
def Ysl:RO:=.t Yn6
def Ysk:RO:=.t Yn5
def Ysj:RO:=.t Yn4
def Ysi:RO:=.t Yn3
def Ysh:RO:=.t Yn2
def Ysg:RO:=.t Yn1
def Ysf:RO:=.t Yn0
def Yse:RO:=.t Ynz
def Ysd:RO:=.t Yny
def Ysc:RO:=.t Ynx
def Yw4:RO:=.t Yt7
def Yw3:RO:=.t Yt6
def Yw2:RO:=.t Yt5
def Yw1:RO:=.t Yt4
def Yw0:RO:=.t Yt3
def Ywz:RO:=.t Yt2
def Ywy:RO:=.t Yt1
def Ywx:RO:=.t Yt0
def Yww:RO:=.t Ytz
def Ywv:RO:=.t Yty
def Ywu:RO:=.t Ytx
def Ywt:RO:=.t Ytw
def Yws:RO:=.t Ytv
def Ywr:RO:=.t Ytu
def Ywq:RO:=.t Ytt
def Ywp:RO:=.t Yts
def Ywo:RO:=.t Ytr
def Ywn:RO:=.t Ytq
def Ywm:RO:=.t Ytp
def Ywl:RO:=.t Yto
def Ywk:RO:=.t Ytn
def Ywj:RO:=.t Ytm
def Ywi:RO:=.t Ytl
def Ywh:RO:=.t Ytk
def Ywg:RO:=.t Ytj
def Ywf:RO:=.t Yd2
def Ywe:RO:=.t Yti
def Ywd:RO:=.t Yth
def Ywc:RO:=.t Ytg
def Ywb:RO:=.t Ytf
def Ywa:RO:=.t Yte
def Yv9:RO:=.t Ytd
def Yv8:RO:=.t Yd1
def Yv7:RO:=.t Ytc
def Yv6:RO:=.t Ytb
def Yv5:RO:=.t Yta
def Yv4:RO:=.t Ys9
def Yv3:RO:=.t Ys8
def Yv2:RO:=.t Ys7
def Yv1:RO:=.t Yd0
def Yv0:RO:=.t Ys6
def Yvz:RO:=.t Ys5
def Yvy:RO:=.t Ys4
def Yvx:RO:=.t Ys3
def Yvw:RO:=.t Ys2
def Yvv:RO:=.t Ys1
def Yvu:RO:=.t Ys0
def Yvt:RO:=.t Ysz
abbrev Q (d:Pa) (o:RP):RQ:=.q (.d d) .no .nm o
abbrev L (x:RO):RP:=.ld false 1 x
abbrev Z (o:RP):RQ:=.q .no .no .nm o
abbrev oq1 (d g:Pa) (o:RP):RQ:=.q (.d d) (.g g true) .nm o
abbrev oq2 (d g:Pa) (o:RP):RQ:=.q (.d d) (.g g false) .nm o
abbrev M (d:Pa) (x:RO):RQ:=.q (.d d) .no .nm (.mv x)
abbrev om1 (d g:Pa) (x:RO):RQ:=.q (.d d) (.g g true) .nm (.mv x)
abbrev i6 (n:Nat):RV:=.i .i64 (.ofNat n)
abbrev k6 (n:Nat):RO:=.c (.i .i64 (.ofNat n))
abbrev kT:RO:=.c (.b true)
abbrev kF:RO:=.c (.b false)
def Yuq:RF:=.f 1 (.sq (.rg [Q s1 (.bx t0),Q s2 (.mv kF)]) (.sq (.rg [Q s3 (.al (.cons .np .nil))]) (.sq (.rg [Q s7 (.mf 48 [t3,t1]),M s4 t7]) (.sq (.sq (.rg [Q s8 (.cl 50 []),Q s9 (.mv (k6 0))]) (.bl 0 (.lp (.sq (.rg [Q s10 (.bn .lss t9 (k6 6))]) (.sq (.cd t10 .sk (.ex 0)) (.sq (.bl 1 (.sq (.rg [Q s11 (.ix true 6 1 t8 t9),Q s6 (.al (.cons .nf .nil)),Z (.st 1 t6 t11)]) (.sq (.rg [Q s12 (.fa 0 t6),Q s13 (L t12),Q s14 (.ld true 8 t1),M s15 t4,Q s16 (.cf t13 [t14,t15]),Q s17 (.nt t16)]) (.cd t17 (.sq (.rg [Q s2 (.mv kF)]) .rt) .sk)))) (.rg [Q s18 (.bn .add t9 (k6 1)),M s9 t18]))))))) (.sq (.rg [Q s2 (.mv kT)]) .rt))))) [.t s2]
theorem Yfv:Zas Tryz.prog 14=some Yuq:=by kernel_rfl
def Yup:RF:=.f 1 (.sq (.rg [Q s1 (.bx t0),Q s2 (.mv kF)]) (.sq (.dr [Q s3 (.ld true 8 t1),.q (.d s4) .no .ef (.cl 46 [t3]),.q (.d s5) .no (.ck 0 1) (.ld true 8 t1),.q (.d s6) .no .ef (.cl 52 [t5]),.q (.d s7) .no .ef (.cl 51 [t4,t6]),M s8 t7,oq1 s9 s8 (.ld true 8 t1),.q (.d s10) (.g s8 true) .ef (.cl 47 [t9]),.q (.d s11) (.g s8 true) (.ck 3 4) (.ld true 8 t1),.q (.d s12) (.g s8 true) .ef (.cl 53 [t11]),.q (.d s13) (.g s8 true) .ef (.cl 51 [t10,t12]),Q s14 (.pick t8 t13 kF),M s15 t14,oq1 s16 s15 (.ld true 8 t1),.q (.d s17) (.g s15 true) .ef (.cl 49 [t16]),.q (.d s18) (.g s15 true) (.ck 6 7) (.ld true 8 t1),.q (.d s19) (.g s15 true) .ef (.cl 54 [t18]),.q (.d s20) (.g s15 true) .ef (.cl 51 [t17,t19]),Q s21 (.pick t15 t20 kF),M s22 t21,oq1 s23 s22 (.ld true 8 t1),.q (.d s24) (.g s22 true) .ef (.cl 55 [t23]),.q (.d s25) (.g s22 true) (.ck 9 10) (.ld true 8 t1),.q (.d s26) (.g s22 true) .ef (.cl 56 [t25]),.q (.d s27) (.g s22 true) .ef (.cl 51 [t24,t26]),Q s28 (.pick t22 t27 kF),M s29 t28,oq1 s30 s29 (.ld true 8 t1),.q (.d s31) (.g s29 true) .ef (.cl 14 [t30]),.q (.d s32) (.g s29 true) (.ck 12 13) (.ld true 8 t1),.q (.d s33) (.g s29 true) .ef (.cl 57 [t32]),oq1 s34 s29 (.bq false t31 t33),Q s35 (.pick t29 t34 kF),M s2 t35]) .rt)) [.t s2]
theorem Yfu:Zas Tryz.prog 15=some Yup:=by kernel_rfl
def Yun:RF:=.f 1 (.sq (.rg [Q s1 (.bx t0),Q s2 (.mv (.c .np))]) (.sq (.rg [Q s3 (.ld true 8 t1),Q s4 (.cl 121 [t3,(k6 4)]),M s2 t4]) .rt)) [.t s2]
theorem Yfs:Zas Tryz.prog 46=some Yun:=by kernel_rfl
def Yum:RF:=.f 1 (.sq (.rg [Q s1 (.bx t0),Q s2 (.mv (.c .np))]) (.sq (.rg [Q s5 (.ld true 8 t1),Q s6 (.cl 121 [t5,(k6 3)]),M s3 t6]) (.sq (.dr [Q s7 (.ld true 8 t1),.q (.d s8) .no .ef (.cl 65 [t7,(k6 2),(.c .ns)]),M s9 t3,.q (.d s10) .no (.ck 0 1) (.ld true 8 t1),.q (.d s11) .no .ef (.cl 65 [t10,(k6 1),(.c .ns)]),Q s12 (.bs (.cons .np (.cons .np .nil)) 2 [(0,1,t9),(1,1,t11)]),.q (.d s13) .no .ef (.cl 64 [t8,t12]),M s4 t13]) (.sq (.rg [Q s14 (.ld true 8 t1),Q s15 (.cl 46 [t14]),M s16 t3,M s17 t4,Q s18 (.cl 123 [t16,t17]),Q s19 (.cl 122 [t15,t18]),M s2 t19]) .rt)))) [.t s2]
theorem Yfr:Zas Tryz.prog 47=some Yum:=by kernel_rfl
def Yul:RF:=.f 2 (.sq (.rg [Q s2 (.mv (.c .np))]) (.sq (.sq (.rg [Q s3 (L t0),Q s4 (.nq 0 false t3 (.c .np))]) (.cd t4 (.rg [Q s5 (.ld true 8 t1),Q s6 (.cl 49 [t5]),Z (.st 1 t0 t6)]) .sk)) (.sq (.rg [Q s7 (L t0),M s2 t7]) .rt))) [.t s2]
theorem Yfq:Zas Tryz.prog 48=some Yul:=by kernel_rfl
def Yuk:RF:=.f 1 (.sq (.rg [Q s1 (.bx t0),Q s2 (.mv (.c .np))]) (.sq (.dr [Q s3 (.ld true 8 t1),.q (.d s4) .no .ef (.cl 125 [t3]),.q (.d s5) .no (.ck 0 1) (.ld true 8 t1),.q (.d s6) .no .ef (.cl 47 [t5]),.q (.d s7) .no (.ck 0 2) (.ld true 8 t1),.q (.d s8) .no .ef (.cl 126 [t7,(.c (.fn 63 .nil))]),Q s9 (.bs (.cons .np (.cons .np .nil)) 2 [(0,1,t6),(1,1,t8)]),.q (.d s10) .no .ef (.cl 124 [t4,t9]),M s2 t10]) .rt)) [.t s2]
theorem Yfp:Zas Tryz.prog 49=some Yuk:=by kernel_rfl
def Yuj:RF:=.f 0 (.sq (.rg [Q s0 (.al (.cons .nf (.cons .nf (.cons .nf (.cons .nf (.cons .nf (.cons .nf .nil)))))))]) (.sq (.rg [Q s1 (.bd (.cons .nf .nil) [(0,1,(.c (.fn 127 .nil)))]),Q s2 (.bd (.cons .nf .nil) [(0,1,(.c (.fn 129 .nil)))]),Q s3 (.bd (.cons .nf .nil) [(0,1,(.c (.fn 133 .nil)))]),Q s4 (.bd (.cons .nf .nil) [(0,1,(.c (.fn 134 .nil)))]),Q s5 (.bd (.cons .nf .nil) [(0,1,(.c (.fn 135 .nil)))]),Q s6 (.bd (.cons .nf .nil) [(0,1,(.c (.fn 139 .nil)))]),Q s7 (.bd (.cons .nf (.cons .nf (.cons .nf (.cons .nf (.cons .nf (.cons .nf .nil)))))) [(0,1,t1),(1,1,t2),(2,1,t3),(3,1,t4),(4,1,t5),(5,1,t6)]),Z (.st 6 t0 t7)]) .rt)) [.c s0 true 6]
theorem Yfo:Zas Tryz.prog 50=some Yuj:=by kernel_rfl
def Yui:RF:=.f 1 (.sq (.rg [Q s1 (.bx t0),Q s2 (.mv (.c .np))]) (.sq (.rg [Q s3 (.ld true 8 t1),Q s4 (.cl 140 [t3,(k6 4)]),M s2 t4]) .rt)) [.t s2]
theorem Yfn:Zas Tryz.prog 52=some Yui:=by kernel_rfl
def Yuh:RF:=.f 1 (.sq (.rg [Q s1 (.bx t0),Q s2 (.mv (.c .np))]) (.sq (.rg [Q s7 (.ld true 8 t1),Q s8 (.cl 141 [t7]),M s6 t8,Q s9 (.ex 0 t6),Q s10 (.ex 1 t6),M s3 t9,M s4 t10]) (.sq (.rg [Q s11 (.ld true 8 t1),Q s12 (.cl 140 [t11,(k6 3)]),M s5 t12]) (.sq (.rg [Q s13 (.ld true 8 t1),Q s14 (.cl 52 [t13]),M s15 t5,M s16 t4,M s17 t5,Q s18 (.cl 94 [t16,t17]),M s19 t3,Q s20 (.cl 94 [t18,t19]),Q s21 (.cl 142 [t15,t20]),Q s22 (.cl 96 [t14,t21]),M s2 t22]) .rt)))) [.t s2]
theorem Yfm:Zas Tryz.prog 53=some Yuh:=by kernel_rfl
def Yug:RF:=.f 1 (.sq (.rg [Q s1 (.bx t0),Q s2 (.mv (.c .np))]) (.sq (.dr [Q s3 (.ld true 8 t1),.q (.d s4) .no .ef (.cl 143 [t3]),.q (.d s5) .no (.ck 0 1) (.ld true 8 t1),.q (.d s6) .no .ef (.cl 53 [t5]),.q (.d s7) .no .ef (.cl 96 [t4,t6]),.q (.d s8) .no (.ck 0 4) (.ld true 8 t1),.q (.d s9) .no (.ck 0 3) (.ld true 8 t1),.q (.d s10) .no .ef (.cl 103 [t9]),.q (.d s11) .no .ef (.cl 107 [t8,t10]),.q (.d s12) .no .ef (.cl 96 [t7,t11]),M s2 t12]) .rt)) [.t s2]
theorem Yfl:Zas Tryz.prog 54=some Yug:=by kernel_rfl
def Yuf:RF:=.f 1 (.sq (.rg [Q s1 (.bx t0),Q s2 (.mv (.c .np))]) (.sq (.dr [.q (.d s3) .no (.ck 0 1) (.ld true 8 t1),Q s4 (.ld true 8 t1),.q (.d s5) .no .ef (.cl 49 [t4]),.q (.d s6) .no .ef (.cl 137 [t3,t5]),M s2 t6]) .rt)) [.t s2]
theorem Yfk:Zas Tryz.prog 55=some Yuf:=by kernel_rfl
def Yue:RF:=.f 1 (.sq (.rg [Q s1 (.bx t0),Q s2 (.mv (.c .np))]) (.sq (.rg [Q s9 (.ld true 8 t1),Q s10 (.cl 141 [t9]),M s8 t10,Q s11 (.ex 0 t8),Q s12 (.ex 1 t8),M s3 t11,M s4 t12]) (.sq (.dr [Q s13 (.ld true 8 t1),.q (.d s14) .no .ef (.cl 53 [t13]),.q (.d s15) .no (.ck 0 1) (.ld true 8 t1),.q (.d s16) .no .ef (.cl 54 [t15]),.q (.d s17) .no .ef (.cl 144 [t16]),M s5 t14,M s6 t17]) (.sq (.dr [M s18 t5,.q (.d s19) .no (.ck 0 1) (.ld true 8 t1),Q s20 (.ld true 8 t1),.q (.d s21) .no .ef (.cl 103 [t20]),.q (.d s22) .no .ef (.cl 107 [t19,t21]),M s23 t5,.q (.d s24) .no .ef (.cl 94 [t22,t23]),.q (.d s25) .no .ef (.cl 96 [t18,t24]),M s26 t6,.q (.d s27) .no .ef (.cl 94 [t25,t26]),M s7 t27]) (.sq (.dr [M s28 t4,M s29 t7,.q (.d s30) .no .ef (.cl 94 [t28,t29]),M s31 t4,.q (.d s32) .no .ef (.cl 94 [t30,t31]),.q (.d s33) .no (.ck 0 2) (.ld true 8 t1),.q (.d s34) .no .ef (.cl 145 [t33]),.q (.d s35) .no .ef (.cl 144 [t34]),M s36 t7,.q (.d s37) .no .ef (.cl 144 [t36]),.q (.d s38) .no .ef (.cl 94 [t35,t37]),.q (.d s39) .no (.ck 0 6) (.ld true 8 t1),.q (.d s40) .no .ef (.cl 52 [t39]),.q (.d s41) .no .ef (.cl 94 [t38,t40]),M s42 t6,.q (.d s43) .no .ef (.cl 94 [t41,t42]),.q (.d s44) .no .ef (.cl 96 [t32,t43]),M s2 t44]) .rt))))) [.t s2]
theorem Yfj:Zas Tryz.prog 56=some Yue:=by kernel_rfl
def Yud:RF:=.f 1 (.sq (.rg [Q s1 (.bx t0),Q s2 (.mv kF)]) (.sq (.sq (.dr [Q s7 (.ld true 8 t1),.q (.d s8) .no .ef (.cl 7 [t7]),Q s9 (.nt t8),M s10 t9,oq2 s11 s10 (.ld true 8 t1),.q (.d s12) (.g s10 false) .ef (.cl 146 [t11]),.q (.d s13) (.g s10 false) (.ck 1 2) (.ld true 8 t1),.q (.d s14) (.g s10 false) .ef (.cl 145 [t13]),.q (.d s15) (.g s10 false) .ef (.cl 96 [t12,t14]),.q (.d s16) (.g s10 false) .ef (.cl 120 [t15]),Q s17 (.pick t10 kT t16)]) (.cd t17 (.sq (.rg [Q s2 (.mv kF)]) .rt) .sk)) (.sq (.dr [.q (.d s18) .no (.ck 0 1) (.ld true 8 t1),Q s19 (.ld true 8 t1),.q (.d s20) .no .ef (.cl 119 [t19]),.q (.d s21) .no .ef (.cl 107 [t18,t20]),.q (.d s22) .no (.ck 0 3) (.ld true 8 t1),.q (.d s23) .no (.ck 0 2) (.ld true 8 t1),.q (.d s24) .no .ef (.cl 108 [t23]),.q (.d s25) .no .ef (.cl 107 [t22,t24]),M s3 t21,M s4 t25]) (.sq (.sq (.rg [Q s26 (.ld true 8 t1),Q s27 (.fa 4 t1),Q s28 (L t27),Q s29 (.cl 100 [t26,t28]),M s30 t3,M s31 t4,Q s32 (.cl 94 [t30,t31]),Q s33 (.cl 109 [t29,t32]),Q s34 (.cl 85 [t33]),Q s35 (.ln false t34),Q s36 (.bn .gtr t35 (k6 0))]) (.cd t36 (.sq (.rg [Q s2 (.mv kF)]) .rt) .sk)) (.sq (.dr [Q s37 (.ld true 8 t1),.q (.d s38) .no .ef (.cl 54 [t37]),.q (.d s39) .no (.ck 0 1) (.ld true 8 t1),.q (.d s40) .no .ef (.cl 56 [t39]),M s5 t38,M s6 t40]) (.sq (.rg [M s41 t5,Q s42 (.cl 120 [t41]),Q s43 (.nt t42),M s44 t43,om1 s45 s44 t3,om1 s46 s44 t6,oq1 s47 s44 (.cl 94 [t45,t46]),om1 s48 s44 t5,oq1 s49 s44 (.cl 144 [t48]),oq1 s50 s44 (.cl 94 [t47,t49]),oq1 s51 s44 (.cl 118 [t50]),oq1 s52 s44 (.nt t51),Q s53 (.pick t44 t52 kF),M s54 t53,oq1 s55 s54 (.ld true 8 t1),oq1 s56 s54 (.cl 108 [t55]),om1 s57 s54 t6,oq1 s58 s54 (.cl 96 [t56,t57]),oq1 s59 s54 (.cl 120 [t58]),oq1 s60 s54 (.nt t59),Q s61 (.pick t54 t60 kF),M s2 t61]) .rt)))))) [.t s2]
theorem Yfi:Zas Tryz.prog 57=some Yud:=by kernel_rfl
def Yuc:RF:=.f 1 (.sq (.rg [Q s1 (.bx t0),Q s2 (.mv (.c .np))]) (.sq (.dr [.q (.d s3) .no .ef (.cl 149 []),.q (.d s4) .no .ef (.ml 2 .nf false t3 (.c (.s [114,102]))),.q (.d s5) .no (.ck 0 2) (.ld true 8 t1),.q (.d s6) .no .ef (.cf t4 [t5]),M s2 t6]) .rt)) [.t s2]
theorem Yfh:Zas Tryz.prog 63=some Yuc:=by kernel_rfl
def Yub:RF:=.f 2 (.sq (.rg [Q s4 (.mv (.c .np))]) (.sq (.sq (.rg [M s7 t1,Q s8 (.ln false t7),Q s9 (.mv (k6 0))]) (.bl 0 (.lp (.sq (.rg [Q s10 (.bn .lss t9 t8)]) (.sq (.cd t10 .sk (.ex 0)) (.sq (.bl 1 (.sq (.rg [Q s11 (.ia 1 t7 t9),Q s12 (L t11),M s6 t12]) (.rg [M s13 t0,M s14 t6,Q s15 (.cl 80 [t13,t14]),M s0 t15]))) (.rg [Q s16 (.bn .add t9 (k6 1)),M s9 t16]))))))) (.sq (.rg [M s17 t0,M s4 t17]) .rt))) [.t s4]
theorem Yfg:Zas Tryz.prog 64=some Yub:=by kernel_rfl
def Yua:RF:=.f 2 (.sq (.rg [Q s2 (.bx t0),Q s4 (.mv (.c .np))]) (.sq (.rg [M s5 t1,Q s6 (.ld true 8 t2),M s7 t1,Q s8 (.cl 62 [t6,t7]),Q s9 (.cl 123 [t5,t8]),M s4 t9]) .rt)) [.t s4]
theorem Yff:Zas Tryz.prog 69=some Yua:=by kernel_rfl
def Yt9:RF:=.f 2 (.sq (.rg [Q s2 (.bx t0),Q s4 (.mv (.c .np))]) (.sq (.rg [Q s5 (.fa 1 t2),Q s6 (L t5),Q s7 (.ln false t6),M s8 t1,Q s9 (.cl 152 [t7,t8]),M s4 t9]) .rt)) [.t s4]
theorem Yfe:Zas Tryz.prog 75=some Yt9:=by kernel_rfl
def Yjq:RF:=.f 2 (.sq (.rg [Q s2 (.bx t0),Q s4 (.mv (.c .np))]) (.sq (.rg [Q s5 (.fa 1 t2),Q s6 (L t5),Q s7 (.ln false t6),M s8 t1,Q s9 (.cl 101 [t7,t8]),M s4 t9]) .rt)) [.t s4]
theorem Yau:Zas Tryz.prog 100=some Yjq:=by kernel_rfl
def Yjp:RF:=.f 2 (.sq (.rg [Q s2 (.bx t0),Q s4 (.mv (.c .np))]) (.sq (.rg [Q s5 (.ld true 8 t2),M s6 t1,Q s7 (.cl 157 [t5,t6,kT]),M s4 t7]) .rt)) [.t s4]
theorem Yat:Zas Tryz.prog 102=some Yjp:=by kernel_rfl
def Yjo:RF:=.f 1 (.sq (.rg [Q s1 (.bx t0),Q s2 (.mv (.c .np))]) (.sq (.dr [.q (.d s3) .no .ef (.cl 149 []),.q (.d s4) .no .ef (.ml 2 .nf false t3 (.c (.s [99,111]))),.q (.d s5) .no (.ck 0 2) (.ld true 8 t1),.q (.d s6) .no .ef (.cf t4 [t5]),M s2 t6]) .rt)) [.t s2]
theorem Yas:Zas Tryz.prog 105=some Yjo:=by kernel_rfl
def Yjn:RF:=.f 2 (.sq (.rg [Q s2 (.bx t0),Q s4 (.mv (.c .np))]) (.sq (.rg [Q s5 (.ld true 8 t2),M s6 t1,Q s7 (.cl 157 [t5,t6,kF]),M s4 t7]) .rt)) [.t s4]
theorem Yar:Zas Tryz.prog 107=some Yjn:=by kernel_rfl
def Yjm:RF:=.f 1 (.sq (.rg [Q s1 (.bx t0),Q s2 (.mv (.c .np))]) (.sq (.dr [Q s3 (.ld true 8 t1),.q (.d s4) .no .ef (.cl 103 [t3]),.q (.d s5) .no .ef (.cl 163 [t4]),.q (.d s6) .no (.ck 0 2) (.ld true 8 t1),.q (.d s7) .no .ef (.cl 108 [t6]),.q (.d s8) .no .ef (.cl 94 [t5,t7]),M s2 t8]) .rt)) [.t s2]
theorem Yaq:Zas Tryz.prog 119=some Yjm:=by kernel_rfl
def Yjl:RF:=.f 2 (.sq (.rg [Q s2 (.bx t0),Q s4 (.mv (.c .np))]) (.sq (.dr [Q s7 (.ld true 8 t2),.q (.d s8) .no .ef (.cl 164 [t7]),.q (.d s9) .no (.ck 0 1) (.ld true 8 t2),.q (.d s10) .no .ef (.cl 165 [t9]),M s5 t8,M s6 t10]) (.sq (.rg [M s11 t5,M s12 t6,Q s13 (.ld true 8 t2),M s14 t1,Q s15 (.bs (.cons (i6 0) .nil) 1 [(0,1,t14)]),Q s16 (.cl 65 [t13,(k6 3),t15]),M s17 t6,M s18 t5,Q s19 (.bs (.cons .np (.cons .np (.cons .np (.cons .np .nil)))) 4 [(0,1,t12),(1,1,t16),(2,1,t17),(3,1,t18)]),Q s20 (.cl 64 [t11,t19]),M s4 t20]) .rt))) [.t s4]
theorem Yap:Zas Tryz.prog 121=some Yjl:=by kernel_rfl
def Yjk:RF:=.f 2 (.sq (.rg [Q s4 (.mv (.c .np))]) (.sq (.sq (.rg [M s7 t1,Q s8 (.ln false t7),Q s9 (.mv (k6 0))]) (.bl 0 (.lp (.sq (.rg [Q s10 (.bn .lss t9 t8)]) (.sq (.cd t10 .sk (.ex 0)) (.sq (.bl 1 (.sq (.rg [Q s11 (.ia 1 t7 t9),Q s12 (L t11),M s6 t12]) (.rg [M s13 t0,M s14 t6,Q s15 (.cl 122 [t13,t14]),M s0 t15]))) (.rg [Q s16 (.bn .add t9 (k6 1)),M s9 t16]))))))) (.sq (.rg [M s17 t0,M s4 t17]) .rt))) [.t s4]
theorem Yao:Zas Tryz.prog 124=some Yjk:=by kernel_rfl
def Yjj:RF:=.f 1 (.sq (.rg [Q s1 (.bx t0),Q s2 (.mv (.c .np))]) (.sq (.dr [Q s9 (.ld true 8 t1),.q (.d s10) .no .ef (.cl 65 [t9,(k6 1),(.c .ns)]),.q (.d s11) .no (.ck 0 1) (.ld true 8 t1),.q (.d s12) .no .ef (.cl 65 [t11,(k6 2),(.c .ns)]),M s3 t10,M s4 t12]) (.sq (.rg [Q s14 (.ld true 8 t1),Q s15 (.cl 168 [t14]),M s13 t15,Q s16 (.ex 0 t13),Q s17 (.ex 1 t13),Q s18 (.ex 2 t13),Q s19 (.ex 3 t13),M s5 t16,M s6 t17,M s7 t18,M s8 t19]) (.sq (.rg [M s20 t3,M s21 t5,M s22 t3,Q s23 (.bs (.cons .np (.cons .np .nil)) 2 [(0,1,t21),(1,1,t22)]),Q s24 (.cl 64 [t20,t23]),M s25 t3,M s26 t6,M s27 t4,Q s28 (.bs (.cons .np (.cons .np .nil)) 2 [(0,1,t26),(1,1,t27)]),Q s29 (.cl 64 [t25,t28]),Q s30 (.bs (.cons .np .nil) 1 [(0,1,t29)]),Q s31 (.cl 124 [t24,t30]),M s2 t31]) .rt)))) [.t s2]
theorem Yan:Zas Tryz.prog 125=some Yjj:=by kernel_rfl
def Yji:RF:=.f 2 (.sq (.rg [Q s2 (.bx t0),Q s4 (.mv (.c .np))]) (.sq (.dr [.q (.d s5) .no (.ck 0 1) (.ld true 8 t2),M s6 t1,Q s7 (.ld true 8 t2),.q (.d s8) .no .ef (.cf t6 [t7]),.q (.d s9) .no .ef (.cl 69 [t5,t8]),M s4 t9]) .rt)) [.t s4]
theorem Yam:Zas Tryz.prog 126=some Yji:=by kernel_rfl
def Yjh:RF:=.f 2 (.sq (.rg [Q s2 (.bx t0),Q s4 (.mv kF)]) (.sq (.rg [Q s5 (.ld true 8 t2),Q s6 (.cl 128 [t5]),M s4 t6]) .rt)) [.t s4]
theorem Yal:Zas Tryz.prog 127=some Yjh:=by kernel_rfl
def Yjg:RF:=.f 2 (.sq (.rg [Q s2 (.bx t0),Q s4 (.mv kF)]) (.sq (.dr [Q s5 (.ld true 8 t2),.q (.d s6) .no .ef (.cl 130 [t5]),.q (.d s7) .no (.ck 0 1) (.ld true 8 t2),.q (.d s8) .no .ef (.cl 63 [t7]),.q (.d s9) .no (.ck 0 2) (.ld true 8 t2),.q (.d s10) .no .ef (.cl 105 [t9]),.q (.d s11) .no (.ck 0 3) (.ld true 8 t2),.q (.d s12) .no .ef (.cl 131 [t11]),Q s13 (.bs (.cons .np (.cons .np (.cons .np .nil))) 3 [(0,1,t8),(1,1,t10),(2,1,t12)]),.q (.d s14) .no .ef (.cl 124 [t6,t13]),.q (.d s15) .no .ef (.cl 132 [t14]),Q s16 (.nt t15),M s4 t16]) .rt)) [.t s4]
theorem Yak:Zas Tryz.prog 129=some Yjg:=by kernel_rfl
def Yjf:RF:=.f 1 (.sq (.rg [Q s1 (.bx t0),Q s2 (.mv (.c .np))]) (.sq (.dr [.q (.d s3) .no (.ck 0 1) (.ld true 8 t1),Q s4 (.ld true 8 t1),.q (.d s5) .no .ef (.cl 91 [t4]),.q (.d s6) .no .ef (.cl 62 [t3,t5]),M s2 t6]) .rt)) [.t s2]
theorem Yaj:Zas Tryz.prog 130=some Yjf:=by kernel_rfl
def Yje:RF:=.f 1 (.sq (.rg [Q s1 (.bx t0),Q s2 (.mv (.c .np))]) (.sq (.dr [.q (.d s3) .no .ef (.cl 149 []),.q (.d s4) .no .ef (.ml 2 .nf false t3 (.c (.s [102,114]))),.q (.d s5) .no (.ck 0 2) (.ld true 8 t1),.q (.d s6) .no .ef (.cf t4 [t5]),M s2 t6]) .rt)) [.t s2]
theorem Yai:Zas Tryz.prog 131=some Yje:=by kernel_rfl
def Yjd:RF:=.f 2 (.sq (.rg [Q s2 (.bx t0),Q s4 (.mv kF)]) (.sq (.rg [M s5 t1,Q s6 (.cf t5 []),Q s7 (.cl 132 [t6]),Q s8 (.nt t7),M s4 t8]) .rt)) [.t s4]
theorem Yah:Zas Tryz.prog 134=some Yjd:=by kernel_rfl
def Yjc:RF:=.f 2 (.sq (.rg [Q s2 (.bx t0),Q s4 (.mv kF)]) (.sq (.dr [Q s5 (.ld true 8 t2),.q (.d s6) .no .ef (.cl 126 [t5,(.c (.fn 131 .nil))]),.q (.d s7) .no (.ck 0 2) (.ld true 8 t2),M s8 t1,.q (.d s9) .no .ef (.cf t8 []),.q (.d s10) .no .ef (.cl 137 [t7,t9]),M s11 t1,.q (.d s12) .no .ef (.cf t11 []),.q (.d s13) .no .ef (.cl 138 [t12]),Q s14 (.bs (.cons .np (.cons .np .nil)) 2 [(0,1,t10),(1,1,t13)]),.q (.d s15) .no .ef (.cl 64 [t6,t14]),.q (.d s16) .no .ef (.cl 136 [t15]),Q s17 (.nt t16),M s4 t17]) .rt)) [.t s4]
theorem Yag:Zas Tryz.prog 135=some Yjc:=by kernel_rfl
def Yjb:RF:=.f 2 (.sq (.rg [Q s2 (.bx t0),Q s4 (.mv (.c .np))]) (.sq (.dr [Q s10 (.ld true 8 t2),.q (.d s11) .no .ef (.cl 47 [t10]),M s12 t1,.q (.d s13) .no .ef (.cl 138 [t12]),.q (.d s14) .no (.ck 0 2) (.ld true 8 t2),.q (.d s15) .no .ef (.cl 65 [t14,(k6 2),(.c .ns)]),M s5 t11,M s6 t13,M s7 t15]) (.sq (.rg [M s16 t5,Q s17 (.ld true 8 t2),Q s18 (.cl 126 [t17,(.c (.fn 63 .nil))]),M s19 t5,Q s20 (.cl 80 [t18,t19]),Q s21 (.cl 122 [t16,t20]),M s22 t6,Q s23 (.cl 80 [t21,t22]),M s8 t23]) (.sq (.dr [Q s24 (.ld true 8 t2),.q (.d s25) .no .ef (.cl 63 [t24]),.q (.d s26) .no (.ck 0 1) (.ld true 8 t2),.q (.d s27) .no .ef (.cl 105 [t26]),.q (.d s28) .no (.ck 0 2) (.ld true 8 t2),.q (.d s29) .no .ef (.cl 131 [t28]),Q s30 (.bs (.cons .np (.cons .np .nil)) 2 [(0,1,t27),(1,1,t29)]),.q (.d s31) .no .ef (.cl 124 [t25,t30]),M s9 t31]) (.sq (.dr [M s32 t7,M s33 t8,M s34 t7,Q s35 (.bs (.cons .np (.cons .np .nil)) 2 [(0,1,t33),(1,1,t34)]),.q (.d s36) .no .ef (.cl 64 [t32,t35]),M s37 t9,.q (.d s38) .no .ef (.cl 138 [t37]),M s39 t8,.q (.d s40) .no .ef (.cl 138 [t39]),.q (.d s41) .no (.ck 0 3) (.ld true 8 t2),.q (.d s42) .no .ef (.cl 46 [t41]),M s43 t6,Q s44 (.bs (.cons .np (.cons .np (.cons .np .nil))) 3 [(0,1,t40),(1,1,t42),(2,1,t43)]),.q (.d s45) .no .ef (.cl 64 [t38,t44]),Q s46 (.bs (.cons .np .nil) 1 [(0,1,t45)]),.q (.d s47) .no .ef (.cl 124 [t36,t46]),M s4 t47]) .rt))))) [.t s4]
theorem Yaf:Zas Tryz.prog 137=some Yjb:=by kernel_rfl
def Yja:RF:=.f 1 (.sq (.rg [Q s2 (.mv (.c .np))]) (.sq (.rg [M s3 t0,Q s4 (.cl 66 [t3]),Q s5 (.cl 174 [t4]),M s2 t5]) .rt)) [.t s2]
theorem Yae:Zas Tryz.prog 138=some Yja:=by kernel_rfl
def Yi9:RF:=.f 2 (.sq (.rg [Q s2 (.bx t0),Q s4 (.mv kF)]) (.sq (.dr [Q s5 (.ld true 8 t2),.q (.d s6) .no .ef (.cl 105 [t5]),.q (.d s7) .no (.ck 0 2) (.ld true 8 t2),M s8 t1,.q (.d s9) .no .ef (.cf t8 []),.q (.d s10) .no .ef (.cl 137 [t7,t9]),.q (.d s11) .no .ef (.cl 122 [t6,t10]),.q (.d s12) .no .ef (.cl 132 [t11]),Q s13 (.nt t12),M s4 t13]) .rt)) [.t s4]
theorem Yad:Zas Tryz.prog 139=some Yi9:=by kernel_rfl
def Yi8:RF:=.f 2 (.sq (.rg [Q s2 (.bx t0),Q s4 (.mv (.c .np))]) (.sq (.dr [.q (.d s7) .no (.ck 0 1) (.ld true 8 t2),Q s8 (.ld true 8 t2),.q (.d s9) .no .ef (.cl 92 [t8]),.q (.d s10) .no .ef (.cl 175 [t7,t9]),.q (.d s11) .no (.ck 0 2) (.ld true 8 t2),.q (.d s12) .no .ef (.cl 176 [t11]),M s5 t10,M s6 t12]) (.sq (.dr [M s13 t6,M s14 t5,.q (.d s15) .no .ef (.cl 94 [t13,t14]),.q (.d s16) .no (.ck 0 1) (.ld true 8 t2),M s17 t1,M s18 t1,.q (.d s19) .no .ef (.cl 93 [t16,(k6 3),t17,t18]),.q (.d s20) .no .ef (.cl 94 [t15,t19]),M s21 t5,.q (.d s22) .no .ef (.cl 94 [t20,t21]),M s23 t6,.q (.d s24) .no .ef (.cl 94 [t22,t23]),M s4 t24]) .rt))) [.t s4]
theorem Yac:Zas Tryz.prog 140=some Yi8:=by kernel_rfl
def Yi7:RF:=.f 1 (.sq (.rg [Q s1 (.bx t0),Q s2 (.mv (.c .np)),Q s3 (.mv (.c .np))]) (.sq (.dr [Q s4 (.ld true 8 t1),.q (.d s5) .no .ef (.cl 93 [t4,(k6 1),(k6 0),(k6 4)]),.q (.d s6) .no (.ck 0 1) (.ld true 8 t1),.q (.d s7) .no .ef (.cl 93 [t6,(k6 2),(k6 0),(k6 4)]),M s2 t5,M s3 t7]) .rt)) [.t s2,.t s3]
theorem Yab:Zas Tryz.prog 141=some Yi7:=by kernel_rfl
def Yi6:RF:=.f 1 (.sq (.rg [Q s1 (.bx t0),Q s2 (.mv (.c .np))]) (.sq (.rg [Q s6 (.ld true 8 t1),Q s7 (.cl 177 [t6]),Q s3 (.al (.cons .np (.cons .np (.cons .np (.cons .np .nil))))),Z (.st 4 t3 t7)]) (.sq (.dr [Q s8 (.ld true 8 t1),.q (.d s9) .no .ef (.cl 93 [t8,(k6 1),(k6 0),(k6 4)]),.q (.d s10) .no (.ck 0 1) (.ld true 8 t1),.q (.d s11) .no .ef (.cl 93 [t10,(k6 2),(k6 0),(k6 4)]),M s4 t9,M s5 t11]) (.sq (.dr [M s12 t4,Q s13 (.fa 0 t3),Q s14 (L t13),.q (.d s15) .no .ef (.cl 94 [t12,t14]),M s16 t4,.q (.d s17) .no .ef (.cl 94 [t15,t16]),M s18 t4,Q s19 (.fa 1 t3),.q (.d s20) .no (.ck 0 2) (L t19),.q (.d s21) .no .ef (.cl 94 [t18,t20]),M s22 t5,.q (.d s23) .no .ef (.cl 94 [t21,t22]),.q (.d s24) .no .ef (.cl 96 [t17,t23]),M s2 t24]) .rt)))) [.t s2]
theorem Yaa:Zas Tryz.prog 143=some Yi6:=by kernel_rfl
def Yi5:RF:=.f 1 (.sq (.rg [Q s2 (.mv (.c .np))]) (.sq (.rg [M s3 t0,Q s4 (.cl 104 [t3]),Q s5 (.cl 178 [t4]),M s2 t5]) .rt)) [.t s2]
theorem Zz9:Zas Tryz.prog 144=some Yi5:=by kernel_rfl
def Yi4:RF:=.f 1 (.sq (.rg [Q s1 (.bx t0),Q s2 (.mv (.c .np))]) (.sq (.dr [Q s3 (.ld true 8 t1),.q (.d s4) .no .ef (.cl 103 [t3]),.q (.d s5) .no (.ck 0 1) (.ld true 8 t1),.q (.d s6) .no .ef (.cl 108 [t5]),.q (.d s7) .no .ef (.cl 96 [t4,t6]),.q (.d s8) .no (.ck 0 3) (.ld true 8 t1),.q (.d s9) .no .ef (.cl 119 [t8]),.q (.d s10) .no .ef (.cl 96 [t7,t9]),M s2 t10]) .rt)) [.t s2]
theorem Zz8:Zas Tryz.prog 145=some Yi4:=by kernel_rfl
def Yi3:RF:=.f 1 (.sq (.rg [Q s1 (.bx t0),Q s2 (.mv (.c .np))]) (.sq (.dr [.q (.d s3) .no (.ck 0 1) (.ld true 8 t1),Q s4 (.ld true 8 t1),.q (.d s5) .no .ef (.cl 98 [t4]),.q (.d s6) .no .ef (.cl 175 [t3,t5]),M s2 t6]) .rt)) [.t s2]
theorem Zz7:Zas Tryz.prog 146=some Yi3:=by kernel_rfl
def Yi2:RF:=.f 0 (.sq (.rg [Q s0 (.mv (.c (.fn 33554432 (.cons (.b true) .nil))))]) (.sq (.rg [Q s1 (.mk),Z (.mi 2 t1 (.c (.s [114,102])) (.c (.fn 179 .nil))),Z (.mi 2 t1 (.c (.s [99,111])) (.c (.fn 180 .nil))),Z (.mi 2 t1 (.c (.s [102,114])) (.c (.fn 181 .nil))),M s2 t1,M s0 t2]) .rt)) [.t s0]
theorem Zz6:Zas Tryz.prog 149=some Yi2:=by kernel_rfl
def Yi1:RF:=.f 1 (.sq (.rg [Q s1 (.bx t0),Q s2 (.mv (.c .np))]) (.sq (.dr [Q s3 (.ld true 8 t1),.q (.d s4) .no .ef (.cl 65 [t3,(k6 1),(.c .ns)]),.q (.d s5) .no (.ck 0 1) (.ld true 8 t1),.q (.d s6) .no .ef (.cl 65 [t5,(k6 2),(.c .ns)]),.q (.d s7) .no .ef (.cl 122 [t4,t6]),M s2 t7]) .rt)) [.t s2]
theorem Zz5:Zas Tryz.prog 164=some Yi1:=by kernel_rfl
def Yi0:RF:=.f 1 (.sq (.rg [Q s1 (.bx t0),Q s2 (.mv (.c .np))]) (.sq (.dr [.q (.d s3) .no (.ck 0 1) (.ld true 8 t1),Q s4 (.ld true 8 t1),.q (.d s5) .no .ef (.cl 81 [t4]),.q (.d s6) .no .ef (.cl 62 [t3,t5]),M s2 t6]) .rt)) [.t s2]
theorem Zz4:Zas Tryz.prog 165=some Yi0:=by kernel_rfl
def rc168:RF:=.f 1 (.sq (.rg [Q s1 (.bx t0),Q s2 (.mv (.c .np)),Q s3 (.mv (.c .np)),Q s4 (.mv (.c .np)),Q s5 (.mv (.c .np))]) (.sq (.dr [Q s16 (.ld true 8 t1),.q (.d s17) .no .ef (.cl 164 [t16]),.q (.d s18) .no (.ck 0 1) (.ld true 8 t1),Q s19 (.fa 5 t1),.q (.d s20) .no (.ck 0 1) (L t19),.q (.d s21) .no .ef (.cl 75 [t18,t20]),M s6 t17,M s7 t21]) (.sq (.dr [M s22 t7,Q s23 (.ld true 8 t1),.q (.d s24) .no .ef (.cl 187 [t23]),.q (.d s25) .no (.ck 0 2) (.ld true 8 t1),.q (.d s26) .no (.ck 0 1) (.ld true 8 t1),.q (.d s27) .no .ef (.cl 63 [t26]),.q (.d s28) .no .ef (.cl 62 [t25,t27]),Q s29 (.bs (.cons .np (.cons .np .nil)) 2 [(0,1,t24),(1,1,t28)]),.q (.d s30) .no .ef (.cl 124 [t22,t29]),M s8 t30]) (.sq (.rg [Q s31 (.ld true 8 t1),Q s32 (.cl 75 [t31,(.c .ns)]),M s9 t32]) (.sq (.dr [Q s33 (.ld true 8 t1),Q s34 (.fa 7 t1),Q s35 (L t34),.q (.d s36) .no .ef (.cl 75 [t33,t35]),M s37 t6,.q (.d s38) .no .ef (.cl 80 [t36,t37]),.q (.d s39) .no (.ck 0 2) (.ld true 8 t1),.q (.d s40) .no .ef (.cl 188 [t39]),Q s41 (.bs (.cons .np .nil) 1 [(0,1,t40)]),.q (.d s42) .no .ef (.cl 124 [t38,t41]),M s10 t42]) (.sq (.dr [M s43 t7,Q s44 (.ld true 8 t1),.q (.d s45) .no .ef (.cl 130 [t44]),.q (.d s46) .no (.ck 0 1) (.ld true 8 t1),Q s47 (.fa 6 t1),.q (.d s48) .no (.ck 0 1) (L t47),.q (.d s49) .no .ef (.cl 75 [t46,t48]),M s50 t6,.q (.d s51) .no .ef (.cl 80 [t49,t50]),Q s52 (.bs (.cons .np (.cons .np .nil)) 2 [(0,1,t45),(1,1,t51)]),.q (.d s53) .no .ef (.cl 124 [t43,t52]),M s11 t53]) (.sq .sk (.sq (.bl 0 (.lp (.bl 1 (.sq (.rg [M s54 t8,M s55 t10,M s56 t9,M s57 t10,Q s58 (.cl 80 [t56,t57]),M s59 t8,M s60 t8,Q s61 (.cl 80 [t59,t60]),Q s62 (.bs (.cons .np (.cons .np (.cons .np .nil))) 3 [(0,1,t55),(1,1,t58),(2,1,t61)]),Q s63 (.cl 124 [t54,t62]),M s64 t9,M s65 t8,M s66 t11,M s67 t9,M s68 t11,Q s69 (.cl 80 [t67,t68]),M s70 t8,M s71 t9,Q s72 (.cl 80 [t70,t71]),Q s73 (.bs (.cons .np (.cons .np (.cons .np (.cons .np .nil)))) 4 [(0,1,t65),(1,1,t66),(2,1,t69),(3,1,t72)]),Q s74 (.cl 124 [t64,t73]),M s75 t10,M s76 t10,M s77 t8,Q s78 (.cl 80 [t76,t77]),M s79 t11,M s80 t10,Q s81 (.cl 80 [t79,t80]),Q s82 (.bs (.cons .np (.cons .np .nil)) 2 [(0,1,t78),(1,1,t81)]),Q s83 (.cl 124 [t75,t82]),M s84 t11,M s85 t10,M s86 t10,M s87 t9,Q s88 (.cl 80 [t86,t87]),M s89 t11,M s90 t11,Q s91 (.cl 80 [t89,t90]),Q s92 (.bs (.cons .np (.cons .np (.cons .np .nil))) 3 [(0,1,t85),(1,1,t88),(2,1,t91)]),Q s93 (.cl 124 [t84,t92]),Q s94 (.bd (.cons .np (.cons .np (.cons .np (.cons .np .nil)))) [(0,1,t63),(1,1,t74),(2,1,t83),(3,1,t93)]),Q s12 (.al (.cons .np (.cons .np (.cons .np (.cons .np .nil))))),Z (.st 4 t12 t94)]) (.sq (.rg [M s95 t8,M s96 t9,M s97 t10,M s98 t11,Q s99 (.bd (.cons .np (.cons .np (.cons .np (.cons .np .nil)))) [(0,1,t95),(1,1,t96),(2,1,t97),(3,1,t98)]),Q s13 (.al (.cons .np (.cons .np (.cons .np (.cons .np .nil))))),Z (.st 4 t13 t99)]) (.sq (.dr [Q Yoj (.ip 4 1 t12 (k6 0)),Q Yoi (L Ysy),Q Yoh (.ip 4 1 t12 (k6 1)),Q Yog (L Ysw),Q Yof (.ip 4 1 t12 (k6 2)),Q Yoe (L Ysu),Q Yod (.ip 4 1 t12 (k6 3)),Q Yoc (L Yss),M s8 Ysx,M s9 Ysv,M s10 Yst,M s11 Ysr]) (.sq (.sq (.rg [Q Yob (.ld true 4 t12),Q Ynb (.mv (k6 0))]) (.bl 2 (.lp (.sq (.rg [Q Yoa (.bn .lss Yhy (k6 4))]) (.sq (.cd Ysp .sk (.ex 2)) (.sq (.bl 3 (.sq (.rg [M Yn9 Yhy,Q Yn8 (.ix false 4 1 Ysq Yhy),M s14 Yso,M s15 Ysn]) (.sq (.rg [M Yn7 t15,M Yn6 t14,Q Yn5 (.ip 4 1 t13 Ysl),Q Yn4 (L Ysk),Q Yn3 (.cl 189 [Ysm,Ysj]),Q Yn2 (.nt Ysi)]) (.cd Ysh (.ex 1) .sk)))) (.rg [Q Yn1 (.bn .add Yhy (k6 1)),M Ynb Ysg]))))))) (.ex 0)))))))) (.sq (.rg [M Yn0 t8,M Ynz t9,M Yny t10,M Ynx t11,M s2 Ysf,M s3 Yse,M s4 Ysd,M s5 Ysc]) .rt))))))))) [.t s2,.t s3,.t s4,.t s5]
theorem Zz3:Zas Tryz.prog 168=some rc168:=by kernel_rfl
def Yiz:RF:=.f 1 (.sq (.rg [Q s1 (.bx t0),Q s2 (.mv (.c .np))]) (.sq (.dr [Q s3 (.ld true 8 t1),.q (.d s4) .no .ef (.cl 93 [t3,(k6 1),(k6 0),(k6 4)]),.q (.d s5) .no (.ck 0 1) (.ld true 8 t1),.q (.d s6) .no .ef (.cl 93 [t5,(k6 2),(k6 0),(k6 4)]),.q (.d s7) .no .ef (.cl 96 [t4,t6]),M s2 t7]) .rt)) [.t s2]
theorem Zz2:Zas Tryz.prog 176=some Yiz:=by kernel_rfl
def rc177:RF:=.f 1 (.sq (.rg [Q s1 (.bx t0),Q s2 (.al (.cons .np (.cons .np (.cons .np (.cons .np .nil)))))]) (.sq (.rg [Q s12 (.ld true 8 t1),Q s13 (.cl 176 [t12]),M s3 t13]) (.sq (.rg [Q s14 (.ld true 8 t1),Q s15 (.fa 5 t1),Q s16 (L t15),Q s17 (.cl 100 [t14,t16]),M s4 t17]) (.sq (.dr [Q s18 (.ld true 8 t1),Q s19 (.fa 6 t1),Q s20 (L t19),.q (.d s21) .no .ef (.cl 100 [t18,t20]),M s22 t3,.q (.d s23) .no .ef (.cl 94 [t21,t22]),.q (.d s24) .no (.ck 0 2) (.ld true 8 t1),Q s25 (.fa 7 t1),.q (.d s26) .no (.ck 0 2) (L t25),.q (.d s27) .no .ef (.cl 100 [t24,t26]),M s28 t3,.q (.d s29) .no .ef (.cl 94 [t27,t28]),M s5 t23,M s6 t29]) (.sq (.dr [.q (.d s30) .no (.ck 0 1) (.ld true 8 t1),Q s31 (.ld true 8 t1),.q (.d s32) .no .ef (.cl 103 [t31]),.q (.d s33) .no .ef (.cl 102 [t30,t32]),M s7 t33]) (.sq (.rg [Q s34 (.fa 1 t1),Q s35 (L t34),Q s36 (.ln false t35),Q s37 (.cl 101 [t36,(.c .ns)]),M s8 t37]) (.sq (.dr [M s38 t4,Q s39 (.ld true 8 t1),.q (.d s40) .no .ef (.cl 196 [t39]),.q (.d s41) .no .ef (.cl 96 [t38,t40]),M s42 t7,.q (.d s43) .no .ef (.cl 96 [t41,t42]),M s44 t8,M s45 t6,.q (.d s46) .no (.ck 0 3) (.ld true 8 t1),.q (.d s47) .no .ef (.cl 197 [t46]),.q (.d s48) .no .ef (.cl 96 [t45,t47]),M s49 t4,.q (.d s50) .no (.ck 0 5) (.ld true 8 t1),.q (.d s51) .no .ef (.cl 146 [t50]),.q (.d s52) .no .ef (.cl 96 [t49,t51]),M s53 t5,.q (.d s54) .no .ef (.cl 96 [t52,t53]),Q s55 (.bd (.cons .np (.cons .np (.cons .np (.cons .np .nil)))) [(0,1,t43),(1,1,t44),(2,1,t48),(3,1,t54)]),Q s9 (.al (.cons .np (.cons .np (.cons .np (.cons .np .nil))))),.q .no .no .ef (.st 4 t9 t55)]) (.sq (.rg [Q s56 (.ld true 4 t9),Q s10 (.al (.cons .np (.cons .np (.cons .np (.cons .np .nil))))),Z (.st 4 t10 t56)]) (.bl 0 (.lp (.bl 1 (.sq (.dr [Q s57 (.fa 0 t9),Q s58 (L t57),Q s59 (.fa 2 t10),Q s60 (L t59),.q (.d s61) .no .ef (.cl 96 [t58,t60]),Q s62 (.fa 1 t10),.q (.d s63) .no (.ck 0 1) (L t62),Q s64 (.fa 2 t10),.q (.d s65) .no (.ck 0 1) (L t64),.q (.d s66) .no .ef (.cl 94 [t63,t65]),.q (.d s67) .no .ef (.cl 96 [t61,t66]),Q s68 (.fa 0 t10),.q (.d s69) .no (.ck 0 3) (L t68),Q s70 (.fa 0 t10),.q (.d s71) .no (.ck 0 3) (L t70),.q (.d s72) .no .ef (.cl 94 [t69,t71]),.q (.d s73) .no .ef (.cl 96 [t67,t72]),Q s74 (.fa 0 t10),.q (.d s75) .no (.ck 0 5) (L t74),Q s76 (.fa 3 t10),.q (.d s77) .no (.ck 0 5) (L t76),.q (.d s78) .no .ef (.cl 96 [t75,t77]),Q s79 (.fa 1 t10),.q (.d s80) .no (.ck 0 6) (L t79),Q s81 (.fa 3 t10),.q (.d s82) .no (.ck 0 6) (L t81),.q (.d s83) .no .ef (.cl 94 [t80,t82]),.q (.d s84) .no .ef (.cl 96 [t78,t83]),Q s85 (.fa 0 t10),.q (.d s86) .no (.ck 0 8) (L t85),Q s87 (.fa 1 t10),.q (.d s88) .no (.ck 0 8) (L t87),.q (.d s89) .no .ef (.cl 94 [t86,t88]),.q (.d s90) .no .ef (.cl 96 [t84,t89]),Q s91 (.fa 2 t9),.q (.d s92) .no (.ck 0 11) (L t91),Q s93 (.fa 2 t10),.q (.d s94) .no (.ck 0 10) (L t93),Q s95 (.fa 0 t10),.q (.d s96) .no (.ck 0 10) (L t95),.q (.d s97) .no .ef (.cl 94 [t94,t96]),.q (.d s98) .no .ef (.cl 96 [t92,t97]),Q s99 (.fa 3 t10),.q (.d Yoj) .no (.ck 0 12) (L t99),Q Yoi (.fa 2 t10),.q (.d Yoh) .no (.ck 0 12) (L Ysx),.q (.d Yog) .no .ef (.cl 94 [Ysy,Ysw]),.q (.d Yof) .no .ef (.cl 96 [t98,Ysv]),Q Yoe (.fa 3 t9),.q (.d Yod) .no (.ck 0 14) (L Yst),Q Yoc (.fa 2 t10),.q (.d Yob) .no (.ck 0 14) (L Ysr),.q (.d Ynb) .no .ef (.cl 96 [Yss,Ysq]),Q Yoa (.fa 2 t10),.q (.d Yn9) .no (.ck 0 15) (L Ysp),Q Yn8 (.fa 1 t10),.q (.d Yn7) .no (.ck 0 15) (L Ysn),.q (.d Yn6) .no .ef (.cl 94 [Yso,Ysm]),.q (.d Yn5) .no .ef (.cl 96 [Yhy,Ysl]),Q Yn4 (.fa 3 t10),.q (.d Yn3) .no (.ck 0 17) (L Ysj),Q Yn2 (.fa 3 t10),.q (.d Yn1) .no (.ck 0 17) (L Ysh),.q (.d Yn0) .no .ef (.cl 94 [Ysi,Ysg]),.q (.d Ynz) .no .ef (.cl 96 [Ysk,Ysf]),Q Yny (.bd (.cons .np (.cons .np (.cons .np (.cons .np .nil)))) [(0,1,t73),(1,1,t90),(2,1,Ysu),(3,1,Yse)]),Q s11 (.al (.cons .np (.cons .np (.cons .np (.cons .np .nil))))),.q .no .no .ef (.st 4 t11 Ysd)]) (.sq (.dr [Q Ynx (.fa 0 t11),Q Yt7 (L Ysc),Q Yt6 (.fa 0 t10),Q Yt5 (L Yw3),.q (.d Yt4) .no .ef (.cl 96 [Yw4,Yw2]),Q Yt3 (.fa 1 t11),.q (.d Yt2) .no (.ck 0 1) (L Yw0),Q Yt1 (.fa 1 t10),.q (.d Yt0) .no (.ck 0 1) (L Ywy),.q (.d Ytz) .no .ef (.cl 96 [Ywz,Ywx]),Q Yty (.fa 2 t11),.q (.d Ytx) .no (.ck 0 2) (L Ywv),Q Ytw (.fa 2 t10),.q (.d Ytv) .no (.ck 0 2) (L Ywt),.q (.d Ytu) .no .ef (.cl 96 [Ywu,Yws]),Q Ytt (.fa 3 t11),.q (.d Yts) .no (.ck 0 3) (L Ywq),Q Ytr (.fa 3 t10),.q (.d Ytq) .no (.ck 0 3) (L Ywo),.q (.d Ytp) .no .ef (.cl 96 [Ywp,Ywn]),Q Yto (.bd (.cons .np (.cons .np (.cons .np (.cons .np .nil)))) [(0,1,Yw1),(1,1,Yww),(2,1,Ywr),(3,1,Ywm)]),.q .no .no .ef (.st 4 t11 Ywl)]) (.sq (.sq (.rg [Q Ytn (.fa 0 t11),Q Ytm (L Ywk),Q Ytl (.fa 0 t10),Q Ytk (L Ywi),Q Ytj (.cl 198 [Ywj,Ywh]),M Yd2 Ywg,oq1 Yti Yd2 (.fa 1 t11),oq1 Yth Yd2 (L Ywe),oq1 Ytg Yd2 (.fa 1 t10),oq1 Ytf Yd2 (L Ywc),oq1 Yte Yd2 (.cl 198 [Ywd,Ywb]),Q Ytd (.pick Ywf Ywa kF),M Yd1 Yv9,oq1 Ytc Yd1 (.fa 2 t11),oq1 Ytb Yd1 (L Yv7),oq1 Yta Yd1 (.fa 2 t10),oq1 Ys9 Yd1 (L Yv5),oq1 Ys8 Yd1 (.cl 198 [Yv6,Yv4]),Q Ys7 (.pick Yv8 Yv3 kF),M Yd0 Yv2,oq1 Ys6 Yd0 (.fa 3 t11),oq1 Ys5 Yd0 (L Yv0),oq1 Ys4 Yd0 (.fa 3 t10),oq1 Ys3 Yd0 (L Yvy),oq1 Ys2 Yd0 (.cl 198 [Yvz,Yvx]),Q Ys1 (.pick Yv1 Yvw kF)]) (.cd Yvv (.sq (.rg [Q Ys0 (.ld true 4 t11),Z (.st 4 t2 Yvu)]) .rt) .sk)) (.rg [Q Ysz (.ld true 4 t11),Z (.st 4 t10 Yvt)]))))))))))))))) [.c s2 true 4]
theorem Zz1:Zas Tryz.prog 177=some rc177:=by kernel_rfl
def Yiy:RF:=.f 1 (.sq (.rg [Q s1 (.bx t0),Q s2 (.mv (.c .np))]) (.sq (.dr [Q s3 (.ld true 8 t1),.q (.d s4) .no .ef (.cl 179 [t3]),.q (.d s5) .no .ef (.cl 182 [t4]),.q (.d s6) .no (.ck 0 2) (.ld true 8 t1),.q (.d s7) .no .ef (.cl 180 [t6]),.q (.d s8) .no .ef (.cl 80 [t5,t7]),M s2 t8]) .rt)) [.t s2]
theorem Zz0:Zas Tryz.prog 181=some Yiy:=by kernel_rfl
def Yix:RF:=.f 1 (.sq (.rg [Q s1 (.bx t0),Q s2 (.mv (.c .np))]) (.sq (.dr [Q s3 (.ld true 8 t1),.q (.d s4) .no .ef (.cl 130 [t3]),.q (.d s5) .no (.ck 0 1) (.ld true 8 t1),.q (.d s6) .no .ef (.cl 202 [t5,(.c (.fn 131 .nil))]),.q (.d s7) .no (.ck 0 2) (.ld true 8 t1),.q (.d s8) .no .ef (.cl 202 [t7,(.c (.fn 63 .nil))]),.q (.d s9) .no .ef (.cl 80 [t6,t8]),.q (.d s10) .no .ef (.cl 106 [t4,t9]),M s2 t10]) .rt)) [.t s2]
theorem Zzz:Zas Tryz.prog 187=some Yix:=by kernel_rfl
def Yiw:RF:=.f 1 (.sq (.rg [Q s1 (.bx t0),Q s2 (.mv (.c .np))]) (.sq (.dr [Q s3 (.ld true 8 t1),.q (.d s4) .no .ef (.cl 130 [t3]),.q (.d s5) .no (.ck 0 1) (.ld true 8 t1),.q (.d s6) .no .ef (.cl 202 [t5,(.c (.fn 105 .nil))]),.q (.d s7) .no (.ck 0 2) (.ld true 8 t1),.q (.d s8) .no .ef (.cl 202 [t7,(.c (.fn 63 .nil))]),.q (.d s9) .no .ef (.cl 80 [t6,t8]),.q (.d s10) .no .ef (.cl 106 [t4,t9]),M s2 t10]) .rt)) [.t s2]
theorem Zzy:Zas Tryz.prog 188=some Yiw:=by kernel_rfl
def Yiv:RF:=.f 1 (.sq (.rg [Q s1 (.bx t0),Q s2 (.mv (.c .np))]) (.sq (.dr [Q s3 (.ld true 8 t1),.q (.d s4) .no .ef (.cl 146 [t3]),.q (.d s5) .no (.ck 0 1) (.ld true 8 t1),.q (.d s6) .no .ef (.cl 206 [t5]),.q (.d s7) .no (.ck 0 2) (.ld true 8 t1),.q (.d s8) .no .ef (.cl 207 [t7]),.q (.d s9) .no .ef (.cl 94 [t6,t8]),.q (.d s10) .no .ef (.cl 109 [t4,t9]),M s2 t10]) .rt)) [.t s2]
theorem Zzx:Zas Tryz.prog 196=some Yiv:=by kernel_rfl
def Yiu:RF:=.f 1 (.sq (.rg [Q s1 (.bx t0),Q s2 (.mv (.c .np))]) (.sq (.dr [Q s3 (.ld true 8 t1),.q (.d s4) .no .ef (.cl 146 [t3]),.q (.d s5) .no (.ck 0 1) (.ld true 8 t1),.q (.d s6) .no .ef (.cl 208 [t5]),.q (.d s7) .no (.ck 0 2) (.ld true 8 t1),.q (.d s8) .no .ef (.cl 207 [t7]),.q (.d s9) .no .ef (.cl 94 [t6,t8]),.q (.d s10) .no .ef (.cl 109 [t4,t9]),M s2 t10]) .rt)) [.t s2]
theorem Zzw:Zas Tryz.prog 197=some Yiu:=by kernel_rfl
def Yit:RF:=.f 2 (.sq (.rg [Q s2 (.bx t0),Q s4 (.mv (.c .np))]) (.sq (.dr [.q (.d s5) .no (.ck 0 1) (.ld true 8 t2),M s6 t1,Q s7 (.ld true 8 t2),.q (.d s8) .no .ef (.cf t6 [t7]),.q (.d s9) .no .ef (.cl 69 [t5,t8]),M s4 t9]) .rt)) [.t s4]
theorem Zzv:Zas Tryz.prog 202=some Yit:=by kernel_rfl
def Yis:RF:=.f 1 (.sq (.rg [Q s1 (.bx t0),Q s2 (.mv (.c .np))]) (.sq (.dr [.q (.d s3) .no (.ck 0 1) (.ld true 8 t1),Q s4 (.ld true 8 t1),.q (.d s5) .no .ef (.cl 119 [t4]),.q (.d s6) .no .ef (.cl 107 [t3,t5]),M s2 t6]) .rt)) [.t s2]
theorem Zzu:Zas Tryz.prog 206=some Yis:=by kernel_rfl
def Yir:RF:=.f 1 (.sq (.rg [Q s1 (.bx t0),Q s2 (.mv (.c .np))]) (.sq (.dr [.q (.d s3) .no (.ck 0 1) (.ld true 8 t1),Q s4 (.ld true 8 t1),.q (.d s5) .no .ef (.cl 103 [t4]),.q (.d s6) .no .ef (.cl 107 [t3,t5]),M s2 t6]) .rt)) [.t s2]
theorem Zzt:Zas Tryz.prog 207=some Yir:=by kernel_rfl
def Yiq:RF:=.f 1 (.sq (.rg [Q s1 (.bx t0),Q s2 (.mv (.c .np))]) (.sq (.dr [.q (.d s3) .no (.ck 0 1) (.ld true 8 t1),Q s4 (.ld true 8 t1),.q (.d s5) .no .ef (.cl 108 [t4]),.q (.d s6) .no .ef (.cl 107 [t3,t5]),M s2 t6]) .rt)) [.t s2]
theorem Zzs:Zas Tryz.prog 208=some Yiq:=by kernel_rfl
def fsL:List (Nat×RF):=[(14,Yuq),(15,Yup),(46,Yun),(47,Yum),(48,Yul),(49,Yuk),(50,Yuj),(52,Yui),(53,Yuh),(54,Yug),(55,Yuf),(56,Yue),(57,Yud),(63,Yuc),(64,Yub),(69,Yua),(75,Yt9),(100,Yjq),(102,Yjp),(105,Yjo),(107,Yjn),(119,Yjm),(121,Yjl),(124,Yjk),(125,Yjj),(126,Yji),(127,Yjh),(129,Yjg),(130,Yjf),(131,Yje),(134,Yjd),(135,Yjc),(137,Yjb),(138,Yja),(139,Yi9),(140,Yi8),(141,Yi7),(143,Yi6),(144,Yi5),(145,Yi4),(146,Yi3),(149,Yi2),(164,Yi1),(165,Yi0),(168,rc168),(176,Yiz),(177,rc177),(181,Yiy),(187,Yix),(188,Yiw),(196,Yiv),(197,Yiu),(202,Yit),(206,Yis),(207,Yir),(208,Yiq)]
theorem fsL_ok:∀ e∈fsL,Zas Tryz.prog e.1=some e.2:=by
 unfold fsL
 refine List.forall_mem_cons.2 ⟨Yfv,?_⟩
 refine List.forall_mem_cons.2 ⟨Yfu,?_⟩
 refine List.forall_mem_cons.2 ⟨Yfs,?_⟩
 refine List.forall_mem_cons.2 ⟨Yfr,?_⟩
 refine List.forall_mem_cons.2 ⟨Yfq,?_⟩
 refine List.forall_mem_cons.2 ⟨Yfp,?_⟩
 refine List.forall_mem_cons.2 ⟨Yfo,?_⟩
 refine List.forall_mem_cons.2 ⟨Yfn,?_⟩
 refine List.forall_mem_cons.2 ⟨Yfm,?_⟩
 refine List.forall_mem_cons.2 ⟨Yfl,?_⟩
 refine List.forall_mem_cons.2 ⟨Yfk,?_⟩
 refine List.forall_mem_cons.2 ⟨Yfj,?_⟩
 refine List.forall_mem_cons.2 ⟨Yfi,?_⟩
 refine List.forall_mem_cons.2 ⟨Yfh,?_⟩
 refine List.forall_mem_cons.2 ⟨Yfg,?_⟩
 refine List.forall_mem_cons.2 ⟨Yff,?_⟩
 refine List.forall_mem_cons.2 ⟨Yfe,?_⟩
 refine List.forall_mem_cons.2 ⟨Yau,?_⟩
 refine List.forall_mem_cons.2 ⟨Yat,?_⟩
 refine List.forall_mem_cons.2 ⟨Yas,?_⟩
 refine List.forall_mem_cons.2 ⟨Yar,?_⟩
 refine List.forall_mem_cons.2 ⟨Yaq,?_⟩
 refine List.forall_mem_cons.2 ⟨Yap,?_⟩
 refine List.forall_mem_cons.2 ⟨Yao,?_⟩
 refine List.forall_mem_cons.2 ⟨Yan,?_⟩
 refine List.forall_mem_cons.2 ⟨Yam,?_⟩
 refine List.forall_mem_cons.2 ⟨Yal,?_⟩
 refine List.forall_mem_cons.2 ⟨Yak,?_⟩
 refine List.forall_mem_cons.2 ⟨Yaj,?_⟩
 refine List.forall_mem_cons.2 ⟨Yai,?_⟩
 refine List.forall_mem_cons.2 ⟨Yah,?_⟩
 refine List.forall_mem_cons.2 ⟨Yag,?_⟩
 refine List.forall_mem_cons.2 ⟨Yaf,?_⟩
 refine List.forall_mem_cons.2 ⟨Yae,?_⟩
 refine List.forall_mem_cons.2 ⟨Yad,?_⟩
 refine List.forall_mem_cons.2 ⟨Yac,?_⟩
 refine List.forall_mem_cons.2 ⟨Yab,?_⟩
 refine List.forall_mem_cons.2 ⟨Yaa,?_⟩
 refine List.forall_mem_cons.2 ⟨Zz9,?_⟩
 refine List.forall_mem_cons.2 ⟨Zz8,?_⟩
 refine List.forall_mem_cons.2 ⟨Zz7,?_⟩
 refine List.forall_mem_cons.2 ⟨Zz6,?_⟩
 refine List.forall_mem_cons.2 ⟨Zz5,?_⟩
 refine List.forall_mem_cons.2 ⟨Zz4,?_⟩
 refine List.forall_mem_cons.2 ⟨Zz3,?_⟩
 refine List.forall_mem_cons.2 ⟨Zz2,?_⟩
 refine List.forall_mem_cons.2 ⟨Zz1,?_⟩
 refine List.forall_mem_cons.2 ⟨Zz0,?_⟩
 refine List.forall_mem_cons.2 ⟨Zzz,?_⟩
 refine List.forall_mem_cons.2 ⟨Zzy,?_⟩
 refine List.forall_mem_cons.2 ⟨Zzx,?_⟩
 refine List.forall_mem_cons.2 ⟨Zzw,?_⟩
 refine List.forall_mem_cons.2 ⟨Zzv,?_⟩
 refine List.forall_mem_cons.2 ⟨Zzu,?_⟩
 refine List.forall_mem_cons.2 ⟨Zzt,?_⟩
 refine List.forall_mem_cons.2 ⟨Zzs,?_⟩
 exact fun _ h=>(by cases h)
end Go.Proofs.YthcnhbclagegeaaGreatDoor.txtP
