/-
  The functions that some laws reach, but for Zcj that are told, in the evaluator's own form, and that this is what the program's text becomes. Conditions: none; these are closed facts.
-/
import Derived.Test.YthcnhbclagegeaaDoorMz
import Derived.Test.YthcnhbclagegeaaDoorRnZi
import Derived.Test.YthcnhbclagegeaaDoorProg
namespace Go.Proofs.YthcnhbclagegeaaDoor.txtP
open Go.Rn
def s0:Pa:=.z
def s1:Pa:=(.o .z)
def s2:Pa:=(.i .z)
def s3:Pa:=(.o (.o .z))
def s4:Pa:=(.i (.o .z))
def s5:Pa:=(.o (.i .z))
def s6:Pa:=(.i (.i .z))
def s7:Pa:=(.o (.o (.o .z)))
def s8:Pa:=(.i (.o (.o .z)))
def s9:Pa:=(.o (.i (.o .z)))
def s10:Pa:=(.i (.i (.o .z)))
def s11:Pa:=(.o (.o (.i .z)))
def s12:Pa:=(.i (.o (.i .z)))
def s13:Pa:=(.o (.i (.i .z)))
def s14:Pa:=(.i (.i (.i .z)))
def s15:Pa:=(.o (.o (.o (.o .z))))
def s16:Pa:=(.i (.o (.o (.o .z))))
def s17:Pa:=(.o (.i (.o (.o .z))))
def s18:Pa:=(.i (.i (.o (.o .z))))
def s19:Pa:=(.o (.o (.i (.o .z))))
def s20:Pa:=(.i (.o (.i (.o .z))))
def s21:Pa:=(.o (.i (.i (.o .z))))
def s22:Pa:=(.i (.i (.i (.o .z))))
def s23:Pa:=(.o (.o (.o (.i .z))))
def s24:Pa:=(.i (.o (.o (.i .z))))
def s25:Pa:=(.o (.i (.o (.i .z))))
def s26:Pa:=(.i (.i (.o (.i .z))))
def s27:Pa:=(.o (.o (.i (.i .z))))
def s28:Pa:=(.i (.o (.i (.i .z))))
def s29:Pa:=(.o (.i (.i (.i .z))))
def s30:Pa:=(.i (.i (.i (.i .z))))
def s31:Pa:=(.o (.o (.o (.o (.o .z)))))
def s32:Pa:=(.i (.o (.o (.o (.o .z)))))
def s33:Pa:=(.o (.i (.o (.o (.o .z)))))
def s34:Pa:=(.i (.i (.o (.o (.o .z)))))
def s35:Pa:=(.o (.o (.i (.o (.o .z)))))
def s36:Pa:=(.i (.o (.i (.o (.o .z)))))
def s37:Pa:=(.o (.i (.i (.o (.o .z)))))
def s38:Pa:=(.i (.i (.i (.o (.o .z)))))
def s39:Pa:=(.o (.o (.o (.i (.o .z)))))
def s40:Pa:=(.i (.o (.o (.i (.o .z)))))
def s41:Pa:=(.o (.i (.o (.i (.o .z)))))
def s42:Pa:=(.i (.i (.o (.i (.o .z)))))
def s43:Pa:=(.o (.o (.i (.i (.o .z)))))
def s44:Pa:=(.i (.o (.i (.i (.o .z)))))
def s45:Pa:=(.o (.i (.i (.i (.o .z)))))
def s46:Pa:=(.i (.i (.i (.i (.o .z)))))
def s47:Pa:=(.o (.o (.o (.o (.i .z)))))
def s48:Pa:=(.i (.o (.o (.o (.i .z)))))
def s49:Pa:=(.o (.i (.o (.o (.i .z)))))
def s50:Pa:=(.i (.i (.o (.o (.i .z)))))
def s51:Pa:=(.o (.o (.i (.o (.i .z)))))
def s52:Pa:=(.i (.o (.i (.o (.i .z)))))
def s53:Pa:=(.o (.i (.i (.o (.i .z)))))
def s54:Pa:=(.i (.i (.i (.o (.i .z)))))
def s55:Pa:=(.o (.o (.o (.i (.i .z)))))
def s56:Pa:=(.i (.o (.o (.i (.i .z)))))
def s57:Pa:=(.o (.i (.o (.i (.i .z)))))
def s58:Pa:=(.i (.i (.o (.i (.i .z)))))
def s59:Pa:=(.o (.o (.i (.i (.i .z)))))
def s60:Pa:=(.i (.o (.i (.i (.i .z)))))
def s61:Pa:=(.o (.i (.i (.i (.i .z)))))
def s62:Pa:=(.i (.i (.i (.i (.i .z)))))
def s63:Pa:=(.o (.o (.o (.o (.o (.o .z))))))
def s64:Pa:=(.i (.o (.o (.o (.o (.o .z))))))
def s65:Pa:=(.o (.i (.o (.o (.o (.o .z))))))
def s66:Pa:=(.i (.i (.o (.o (.o (.o .z))))))
def s67:Pa:=(.o (.o (.i (.o (.o (.o .z))))))
def s68:Pa:=(.i (.o (.i (.o (.o (.o .z))))))
def s69:Pa:=(.o (.i (.i (.o (.o (.o .z))))))
def s70:Pa:=(.i (.i (.i (.o (.o (.o .z))))))
def s71:Pa:=(.o (.o (.o (.i (.o (.o .z))))))
def s72:Pa:=(.i (.o (.o (.i (.o (.o .z))))))
def s73:Pa:=(.o (.i (.o (.i (.o (.o .z))))))
def s74:Pa:=(.i (.i (.o (.i (.o (.o .z))))))
def s75:Pa:=(.o (.o (.i (.i (.o (.o .z))))))
def s76:Pa:=(.i (.o (.i (.i (.o (.o .z))))))
def s77:Pa:=(.o (.i (.i (.i (.o (.o .z))))))
def s78:Pa:=(.i (.i (.i (.i (.o (.o .z))))))
def s79:Pa:=(.o (.o (.o (.o (.i (.o .z))))))
def s80:Pa:=(.i (.o (.o (.o (.i (.o .z))))))
def s81:Pa:=(.o (.i (.o (.o (.i (.o .z))))))
def s82:Pa:=(.i (.i (.o (.o (.i (.o .z))))))
def s83:Pa:=(.o (.o (.i (.o (.i (.o .z))))))
def s84:Pa:=(.i (.o (.i (.o (.i (.o .z))))))
def s85:Pa:=(.o (.i (.i (.o (.i (.o .z))))))
def s86:Pa:=(.i (.i (.i (.o (.i (.o .z))))))
def s87:Pa:=(.o (.o (.o (.i (.i (.o .z))))))
def s88:Pa:=(.i (.o (.o (.i (.i (.o .z))))))
def s89:Pa:=(.o (.i (.o (.i (.i (.o .z))))))
def s90:Pa:=(.i (.i (.o (.i (.i (.o .z))))))
def s91:Pa:=(.o (.o (.i (.i (.i (.o .z))))))
def s92:Pa:=(.i (.o (.i (.i (.i (.o .z))))))
def s93:Pa:=(.o (.i (.i (.i (.i (.o .z))))))
def s94:Pa:=(.i (.i (.i (.i (.i (.o .z))))))
def s95:Pa:=(.o (.o (.o (.o (.o (.i .z))))))
def s96:Pa:=(.i (.o (.o (.o (.o (.i .z))))))
def s97:Pa:=(.o (.i (.o (.o (.o (.i .z))))))
def s98:Pa:=(.i (.i (.o (.o (.o (.i .z))))))
def s99:Pa:=(.o (.o (.i (.o (.o (.i .z))))))
def s100:Pa:=(.i (.o (.i (.o (.o (.i .z))))))
def s101:Pa:=(.o (.i (.i (.o (.o (.i .z))))))
def s102:Pa:=(.i (.i (.i (.o (.o (.i .z))))))
def s103:Pa:=(.o (.o (.o (.i (.o (.i .z))))))
def s104:Pa:=(.i (.o (.o (.i (.o (.i .z))))))
def s105:Pa:=(.o (.i (.o (.i (.o (.i .z))))))
def s106:Pa:=(.i (.i (.o (.i (.o (.i .z))))))
def s107:Pa:=(.o (.o (.i (.i (.o (.i .z))))))
def s108:Pa:=(.i (.o (.i (.i (.o (.i .z))))))
def s109:Pa:=(.o (.i (.i (.i (.o (.i .z))))))
def s110:Pa:=(.i (.i (.i (.i (.o (.i .z))))))
def s111:Pa:=(.o (.o (.o (.o (.i (.i .z))))))
def s112:Pa:=(.i (.o (.o (.o (.i (.i .z))))))
def s113:Pa:=(.o (.i (.o (.o (.i (.i .z))))))
def s114:Pa:=(.i (.i (.o (.o (.i (.i .z))))))
def s115:Pa:=(.o (.o (.i (.o (.i (.i .z))))))
def s116:Pa:=(.i (.o (.i (.o (.i (.i .z))))))
def s117:Pa:=(.o (.i (.i (.o (.i (.i .z))))))
def s118:Pa:=(.i (.i (.i (.o (.i (.i .z))))))
def s119:Pa:=(.o (.o (.o (.i (.i (.i .z))))))
def s120:Pa:=(.i (.o (.o (.i (.i (.i .z))))))
def s121:Pa:=(.o (.i (.o (.i (.i (.i .z))))))
def s122:Pa:=(.i (.i (.o (.i (.i (.i .z))))))
def s123:Pa:=(.o (.o (.i (.i (.i (.i .z))))))
def Xen:Pa:=(.i (.o (.i (.i (.i (.i .z))))))
def Xem:Pa:=(.o (.i (.i (.i (.i (.i .z))))))
def Xel:Pa:=(.i (.i (.i (.i (.i (.i .z))))))
def Xek:Pa:=(.o (.o (.o (.o (.o (.o (.o .z)))))))
def Xej:Pa:=(.i (.o (.o (.o (.o (.o (.o .z)))))))
def Xei:Pa:=(.o (.i (.o (.o (.o (.o (.o .z)))))))
def Xeh:Pa:=(.i (.i (.o (.o (.o (.o (.o .z)))))))
def Xeg:Pa:=(.o (.o (.i (.o (.o (.o (.o .z)))))))
def Xef:Pa:=(.i (.o (.i (.o (.o (.o (.o .z)))))))
def Xee:Pa:=(.o (.i (.i (.o (.o (.o (.o .z)))))))
def Xed:Pa:=(.i (.i (.i (.o (.o (.o (.o .z)))))))
def Xec:Pa:=(.o (.o (.o (.i (.o (.o (.o .z)))))))
def Xeb:Pa:=(.i (.o (.o (.i (.o (.o (.o .z)))))))
def Xea:Pa:=(.o (.i (.o (.i (.o (.o (.o .z)))))))
def Xd9:Pa:=(.i (.i (.o (.i (.o (.o (.o .z)))))))
def Xd8:Pa:=(.o (.o (.i (.i (.o (.o (.o .z)))))))
def Xd7:Pa:=(.i (.o (.i (.i (.o (.o (.o .z)))))))
def Xd6:Pa:=(.o (.i (.i (.i (.o (.o (.o .z)))))))
def Xd5:Pa:=(.i (.i (.i (.i (.o (.o (.o .z)))))))
def Xd4:Pa:=(.o (.o (.o (.o (.i (.o (.o .z)))))))
def Xd3:Pa:=(.i (.o (.o (.o (.i (.o (.o .z)))))))
def Xd2:Pa:=(.o (.i (.o (.o (.i (.o (.o .z)))))))
def Xd1:Pa:=(.i (.i (.o (.o (.i (.o (.o .z)))))))
def Xd0:Pa:=(.o (.o (.i (.o (.i (.o (.o .z)))))))
def Xdz:Pa:=(.i (.o (.i (.o (.i (.o (.o .z)))))))
def Yhu:Pa:=(.o (.i (.i (.o (.i (.o (.o .z)))))))
def Xdy:Pa:=(.i (.i (.i (.o (.i (.o (.o .z)))))))
def Xdx:Pa:=(.o (.o (.o (.i (.i (.o (.o .z)))))))
def Xdw:Pa:=(.i (.o (.o (.i (.i (.o (.o .z)))))))
def Xdv:Pa:=(.o (.i (.o (.i (.i (.o (.o .z)))))))
def Xdu:Pa:=(.i (.i (.o (.i (.i (.o (.o .z)))))))
def Xdt:Pa:=(.o (.o (.i (.i (.i (.o (.o .z)))))))
def Yht:Pa:=(.i (.o (.i (.i (.i (.o (.o .z)))))))
def Xds:Pa:=(.o (.i (.i (.i (.i (.o (.o .z)))))))
def Xdr:Pa:=(.i (.i (.i (.i (.i (.o (.o .z)))))))
def Xdq:Pa:=(.o (.o (.o (.o (.o (.i (.o .z)))))))
def Xdp:Pa:=(.i (.o (.o (.o (.o (.i (.o .z)))))))
def Xdo:Pa:=(.o (.i (.o (.o (.o (.i (.o .z)))))))
def Xdn:Pa:=(.i (.i (.o (.o (.o (.i (.o .z)))))))
def Yhs:Pa:=(.o (.o (.i (.o (.o (.i (.o .z)))))))
def Xdm:Pa:=(.i (.o (.i (.o (.o (.i (.o .z)))))))
def Xdl:Pa:=(.o (.i (.i (.o (.o (.i (.o .z)))))))
def Xdk:Pa:=(.i (.i (.i (.o (.o (.i (.o .z)))))))
def Xdj:Pa:=(.o (.o (.o (.i (.o (.i (.o .z)))))))
def Xdi:Pa:=(.i (.o (.o (.i (.o (.i (.o .z)))))))
def Xdh:Pa:=(.o (.i (.o (.i (.o (.i (.o .z)))))))
def Xdg:Pa:=(.i (.i (.o (.i (.o (.i (.o .z)))))))
def Xdf:Pa:=(.o (.o (.i (.i (.o (.i (.o .z)))))))
def t0:RO:=.t s0
def t1:RO:=.t s1
def t2:RO:=.t s2
def t3:RO:=.t s3
def t4:RO:=.t s4
def t5:RO:=.t s5
def t6:RO:=.t s6
def t7:RO:=.t s7
def t8:RO:=.t s8
def t9:RO:=.t s9
def t10:RO:=.t s10
def t11:RO:=.t s11
def t12:RO:=.t s12
def t13:RO:=.t s13
def t14:RO:=.t s14
def t15:RO:=.t s15
def t16:RO:=.t s16
def t17:RO:=.t s17
def t18:RO:=.t s18
def t19:RO:=.t s19
def t20:RO:=.t s20
def t21:RO:=.t s21
def t22:RO:=.t s22
def t23:RO:=.t s23
def t24:RO:=.t s24
def t25:RO:=.t s25
def t26:RO:=.t s26
def t27:RO:=.t s27
def t28:RO:=.t s28
def t29:RO:=.t s29
def t30:RO:=.t s30
def t31:RO:=.t s31
def t32:RO:=.t s32
def t33:RO:=.t s33
def t34:RO:=.t s34
def t35:RO:=.t s35
def t36:RO:=.t s36
def t37:RO:=.t s37
def t38:RO:=.t s38
def t39:RO:=.t s39
def t40:RO:=.t s40
def t41:RO:=.t s41
def t42:RO:=.t s42
def t43:RO:=.t s43
def t44:RO:=.t s44
def t45:RO:=.t s45
def t46:RO:=.t s46
def t47:RO:=.t s47
def t48:RO:=.t s48
def t49:RO:=.t s49
def t50:RO:=.t s50
def t51:RO:=.t s51
def t52:RO:=.t s52
def t53:RO:=.t s53
def t54:RO:=.t s54
def t55:RO:=.t s55
def t56:RO:=.t s56
def t57:RO:=.t s57
def t58:RO:=.t s58
def t59:RO:=.t s59
def t60:RO:=.t s60
def t61:RO:=.t s61
def t62:RO:=.t s62
def t63:RO:=.t s63
def t64:RO:=.t s64
def t65:RO:=.t s65
def t66:RO:=.t s66
def t67:RO:=.t s67
def t68:RO:=.t s68
def t69:RO:=.t s69
def t70:RO:=.t s70
def t71:RO:=.t s71
def t72:RO:=.t s72
def t73:RO:=.t s73
def t74:RO:=.t s74
def t75:RO:=.t s75
def t76:RO:=.t s76
def t77:RO:=.t s77
def t78:RO:=.t s78
def t79:RO:=.t s79
def t80:RO:=.t s80
def t81:RO:=.t s81
def t82:RO:=.t s82
def t83:RO:=.t s83
def t84:RO:=.t s84
def t85:RO:=.t s85
def t86:RO:=.t s86
def t87:RO:=.t s87
def t88:RO:=.t s88
def t89:RO:=.t s89
def t90:RO:=.t s90
def t91:RO:=.t s91
def t92:RO:=.t s92
def t93:RO:=.t s93
def t94:RO:=.t s94
def t95:RO:=.t s95
def t96:RO:=.t s96
def t97:RO:=.t s97
def t98:RO:=.t s98
def t99:RO:=.t s99
def t100:RO:=.t s100
def t101:RO:=.t s101
def t102:RO:=.t s102
def t103:RO:=.t s103
def t104:RO:=.t s104
def t105:RO:=.t s105
def t106:RO:=.t s106
def t107:RO:=.t s107
def t108:RO:=.t s108
def t109:RO:=.t s109
def t110:RO:=.t s110
def t111:RO:=.t s111
def t112:RO:=.t s112
def t113:RO:=.t s113
def t114:RO:=.t s114
def t115:RO:=.t s115
def t116:RO:=.t s116
def t117:RO:=.t s117
def t118:RO:=.t s118
def t119:RO:=.t s119
def t120:RO:=.t s120
def t121:RO:=.t s121
def t122:RO:=.t s122
def t123:RO:=.t s123
def Xje:RO:=.t Xen
def Xjd:RO:=.t Xem
def Xjc:RO:=.t Xel
def Xjb:RO:=.t Xek
def Xja:RO:=.t Xej
def Xi9:RO:=.t Xei
def Xi8:RO:=.t Xeh
def Xi7:RO:=.t Xeg
def Xi6:RO:=.t Xef
def Xi5:RO:=.t Xee
def Xi4:RO:=.t Xed
def Xi3:RO:=.t Xec
def Xi2:RO:=.t Xeb
def Xi1:RO:=.t Xea
def Xi0:RO:=.t Xd9
def Xiz:RO:=.t Xd8
def Xiy:RO:=.t Xd7
def Xix:RO:=.t Xd6
def Xiw:RO:=.t Xd5
def Xiv:RO:=.t Xd4
def Xiu:RO:=.t Xd3
def Xit:RO:=.t Xd2
def Xis:RO:=.t Xd1
def Xir:RO:=.t Xd0
def Xiq:RO:=.t Xdz
def Xip:RO:=.t Yhu
def Xio:RO:=.t Xdy
def Xin:RO:=.t Xdx
def Xim:RO:=.t Xdw
def Xil:RO:=.t Xdv
def Xik:RO:=.t Xdu
def Xij:RO:=.t Xdt
def Xii:RO:=.t Yht
def Xih:RO:=.t Xds
def Xig:RO:=.t Xdr
def Xif:RO:=.t Xdq
def Xie:RO:=.t Xdp
def Xid:RO:=.t Xdo
def Xic:RO:=.t Xdn
def Xib:RO:=.t Yhs
def Xia:RO:=.t Xdm
def Xh9:RO:=.t Xdl
def Xh8:RO:=.t Xdk
def Xh7:RO:=.t Xdj
def Xh6:RO:=.t Xdi
def Xh5:RO:=.t Xdh
def Xh4:RO:=.t Xdg
def Xh3:RO:=.t Xdf
abbrev Q (d:Pa) (o:RP):RQ:=.q (.d d) .no .nm o
abbrev L (x:RO):RP:=.ld false 1 x
abbrev Z (o:RP):RQ:=.q .no .no .nm o
abbrev oq1 (d g:Pa) (o:RP):RQ:=.q (.d d) (.g g true) .nm o
abbrev oq2 (d g:Pa) (o:RP):RQ:=.q (.d d) (.g g false) .nm o
abbrev M (d:Pa) (x:RO):RQ:=.q (.d d) .no .nm (.mv x)
abbrev om1 (d g:Pa) (x:RO):RQ:=.q (.d d) (.g g true) .nm (.mv x)
abbrev i6 (n:Nat):RV:=.i .i64 (.ofNat n)
abbrev k6 (n:Nat):RO:=.c (.i .i64 (.ofNat n))
abbrev kT:RO:=.c (.b true)
abbrev kF:RO:=.c (.b false)
def rc22:RF:=txt.rc22
theorem rc22_ok:Zak Tryd.prog 22=some rc22:=txt.rc22_ok
def Xfa:RF:=.f 1 (.sq (.rg [Q s1 (.bx t0),Q s2 (.mv kF)]) (.sq (.rg [Q s9 (.ld true 8 t1),Q s10 (.cl 78 [t9]),M s8 t10,Q s11 (.ex 0 t8),Q s12 (.ex 1 t8),Q s13 (.ex 2 t8),Q s14 (.ex 3 t8),M s3 t11,M s4 t12,M s5 t13,M s6 t14]) (.sq (.rg [Q s15 (.ld true 8 t1),Q s16 (.cl 79 [t15]),Q s7 (.al (.cons .np (.cons .np (.cons .np (.cons .np .nil))))),Z (.st 4 t7 t16)]) (.sq (.dr [M s17 t3,Q s18 (.fa 0 t7),Q s19 (L t18),.q (.d s20) .no .ef (.cl 80 [t17,t19]),M s21 t20,om1 s22 s21 t4,oq1 s23 s21 (.fa 1 t7),oq1 s24 s21 (L t23),.q (.d s25) (.g s21 true) .ef (.cl 80 [t22,t24]),Q s26 (.pick t21 t25 kF),M s27 t26,om1 s28 s27 t5,oq1 s29 s27 (.fa 2 t7),oq1 s30 s27 (L t29),.q (.d s31) (.g s27 true) .ef (.cl 80 [t28,t30]),Q s32 (.pick t27 t31 kF),M s33 t32,om1 s34 s33 t6,oq1 s35 s33 (.fa 3 t7),oq1 s36 s33 (L t35),.q (.d s37) (.g s33 true) .ef (.cl 80 [t34,t36]),Q s38 (.pick t33 t37 kF),M s39 t38,oq1 s40 s39 (.ld true 8 t1),.q (.d s41) (.g s39 true) .ef (.cl 74 [t40]),.q (.d s42) (.g s39 true) (.ck 4 5) (.ld true 8 t1),.q (.d s43) (.g s39 true) .ef (.cl 81 [t42]),.q (.d s44) (.g s39 true) .ef (.cl 80 [t41,t43]),Q s45 (.pick t39 t44 kF),M s46 t45,oq1 s47 s46 (.ld true 8 t1),.q (.d s48) (.g s46 true) .ef (.cl 76 [t47]),.q (.d s49) (.g s46 true) (.ck 7 8) (.ld true 8 t1),.q (.d s50) (.g s46 true) .ef (.cl 82 [t49]),.q (.d s51) (.g s46 true) .ef (.cl 80 [t48,t50]),Q s52 (.pick t46 t51 kF),M s53 t52,oq1 s54 s53 (.ld true 8 t1),.q (.d s55) (.g s53 true) .ef (.cl 77 [t54]),.q (.d s56) (.g s53 true) (.ck 10 11) (.ld true 8 t1),.q (.d s57) (.g s53 true) .ef (.cl 83 [t56]),.q (.d s58) (.g s53 true) .ef (.cl 80 [t55,t57]),Q s59 (.pick t53 t58 kF),M s2 t59]) .rt)))) [.t s2]
theorem Ylp:Zak Tryd.prog 28=some Xfa:=by kernel_rfl
def rc29:RF:=txt.rc29
theorem rc29_ok:Zak Tryd.prog 29=some rc29:=txt.rc29_ok
def rc45:RF:=txt.rc45
theorem rc45_ok:Zak Tryd.prog 45=some rc45:=txt.rc45_ok
def rc47:RF:=txt.rc47
theorem rc47_ok:Zak Tryd.prog 47=some rc47:=txt.rc47_ok
def rc51:RF:=txt.rc51
theorem rc51_ok:Zak Tryd.prog 51=some rc51:=txt.rc51_ok
def Xe4:RF:=.f 1 (.sq (.rg [Q s1 (.bx t0),Q s2 (.mv (.c .np))]) (.sq (.dr [Q s3 (.ld true 8 t1),.q (.d s4) .no .ef (.cl 50 [t3]),.q (.d s5) .no .ef (.cl 97 [t4]),.q (.d s6) .no (.ck 0 2) (.ld true 8 t1),.q (.d s7) .no .ef (.cl 52 [t6]),.q (.d s8) .no .ef (.cl 98 [t5,t7]),M s2 t8]) .rt)) [.t s2]
theorem Ylj:Zak Tryd.prog 53=some Xe4:=by kernel_rfl
def Xe3:RF:=.f 2 (.sq (.rg [Q s2 (.bx t0),Q s4 (.mv (.c .np))]) (.sq (.rg [Q s5 (.ld true 8 t2),M s6 t1,Q s7 (.cl 102 [t5,t6,kT]),M s4 t7]) .rt)) [.t s4]
theorem Yli:Zak Tryd.prog 56=some Xe3:=by kernel_rfl
def Xe2:RF:=.f 2 (.sq (.rg [Q s2 (.bx t0),Q s4 (.mv (.c .np))]) (.sq (.rg [Q s5 (.ld true 8 t2),M s6 t1,Q s7 (.cl 102 [t5,t6,kF]),M s4 t7]) .rt)) [.t s4]
theorem Ylh:Zak Tryd.prog 57=some Xe2:=by kernel_rfl
def rc63:RF:=txt.rc63
theorem rc63_ok:Zak Tryd.prog 63=some rc63:=txt.rc63_ok
def rc74:RF:=txt.rc74
theorem rc74_ok:Zak Tryd.prog 74=some rc74:=txt.rc74_ok
def rc76:RF:=txt.rc76
theorem rc76_ok:Zak Tryd.prog 76=some rc76:=txt.rc76_ok
def rc77:RF:=txt.rc77
theorem rc77_ok:Zak Tryd.prog 77=some rc77:=txt.rc77_ok
def rc78:RF:=txt.rc78
theorem rc78_ok:Zak Tryd.prog 78=some rc78:=txt.rc78_ok
def rc79:RF:=.f 1 (.sq (.rg [Q s1 (.bx t0),Q s2 (.al (.cons .np (.cons .np (.cons .np (.cons .np .nil)))))]) (.sq (.rg [Q s12 (.ld true 8 t1),Q s13 (.cl 126 [t12]),M s3 t13]) (.sq (.rg [Q s14 (.ld true 8 t1),Q s15 (.fa 5 t1),Q s16 (L t15),Q s17 (.cl 115 [t14,t16]),M s4 t17]) (.sq (.dr [Q s18 (.ld true 8 t1),Q s19 (.fa 6 t1),Q s20 (L t19),.q (.d s21) .no .ef (.cl 115 [t18,t20]),M s22 t3,.q (.d s23) .no .ef (.cl 98 [t21,t22]),.q (.d s24) .no (.ck 0 2) (.ld true 8 t1),Q s25 (.fa 7 t1),.q (.d s26) .no (.ck 0 2) (L t25),.q (.d s27) .no .ef (.cl 115 [t24,t26]),M s28 t3,.q (.d s29) .no .ef (.cl 98 [t27,t28]),M s5 t23,M s6 t29]) (.sq (.dr [.q (.d s30) .no (.ck 0 1) (.ld true 8 t1),Q s31 (.ld true 8 t1),.q (.d s32) .no .ef (.cl 50 [t31]),.q (.d s33) .no .ef (.cl 56 [t30,t32]),M s7 t33]) (.sq (.rg [Q s34 (.fa 1 t1),Q s35 (L t34),Q s36 (.ln false t35),Q s37 (.cl 48 [t36,(.c .ns)]),M s8 t37]) (.sq (.dr [M s38 t4,Q s39 (.ld true 8 t1),.q (.d s40) .no .ef (.cl 82 [t39]),.q (.d s41) .no .ef (.cl 116 [t38,t40]),M s42 t7,.q (.d s43) .no .ef (.cl 116 [t41,t42]),M s44 t8,M s45 t6,.q (.d s46) .no (.ck 0 3) (.ld true 8 t1),.q (.d s47) .no .ef (.cl 83 [t46]),.q (.d s48) .no .ef (.cl 116 [t45,t47]),M s49 t4,.q (.d s50) .no (.ck 0 5) (.ld true 8 t1),.q (.d s51) .no .ef (.cl 127 [t50]),.q (.d s52) .no .ef (.cl 116 [t49,t51]),M s53 t5,.q (.d s54) .no .ef (.cl 116 [t52,t53]),Q s55 (.bd (.cons .np (.cons .np (.cons .np (.cons .np .nil)))) [(0,1,t43),(1,1,t44),(2,1,t48),(3,1,t54)]),Q s9 (.al (.cons .np (.cons .np (.cons .np (.cons .np .nil))))),.q .no .no .ef (.st 4 t9 t55)]) (.sq (.rg [Q s56 (.ld true 4 t9),Q s10 (.al (.cons .np (.cons .np (.cons .np (.cons .np .nil))))),Z (.st 4 t10 t56)]) (.bl 0 (.lp (.bl 1 (.sq (.dr [Q s57 (.fa 0 t9),Q s58 (L t57),Q s59 (.fa 2 t10),Q s60 (L t59),.q (.d s61) .no .ef (.cl 116 [t58,t60]),Q s62 (.fa 1 t10),.q (.d s63) .no (.ck 0 1) (L t62),Q s64 (.fa 2 t10),.q (.d s65) .no (.ck 0 1) (L t64),.q (.d s66) .no .ef (.cl 98 [t63,t65]),.q (.d s67) .no .ef (.cl 116 [t61,t66]),Q s68 (.fa 0 t10),.q (.d s69) .no (.ck 0 3) (L t68),Q s70 (.fa 0 t10),.q (.d s71) .no (.ck 0 3) (L t70),.q (.d s72) .no .ef (.cl 98 [t69,t71]),.q (.d s73) .no .ef (.cl 116 [t67,t72]),Q s74 (.fa 0 t10),.q (.d s75) .no (.ck 0 5) (L t74),Q s76 (.fa 3 t10),.q (.d s77) .no (.ck 0 5) (L t76),.q (.d s78) .no .ef (.cl 116 [t75,t77]),Q s79 (.fa 1 t10),.q (.d s80) .no (.ck 0 6) (L t79),Q s81 (.fa 3 t10),.q (.d s82) .no (.ck 0 6) (L t81),.q (.d s83) .no .ef (.cl 98 [t80,t82]),.q (.d s84) .no .ef (.cl 116 [t78,t83]),Q s85 (.fa 0 t10),.q (.d s86) .no (.ck 0 8) (L t85),Q s87 (.fa 1 t10),.q (.d s88) .no (.ck 0 8) (L t87),.q (.d s89) .no .ef (.cl 98 [t86,t88]),.q (.d s90) .no .ef (.cl 116 [t84,t89]),Q s91 (.fa 2 t9),.q (.d s92) .no (.ck 0 11) (L t91),Q s93 (.fa 2 t10),.q (.d s94) .no (.ck 0 10) (L t93),Q s95 (.fa 0 t10),.q (.d s96) .no (.ck 0 10) (L t95),.q (.d s97) .no .ef (.cl 98 [t94,t96]),.q (.d s98) .no .ef (.cl 116 [t92,t97]),Q s99 (.fa 3 t10),.q (.d s100) .no (.ck 0 12) (L t99),Q s101 (.fa 2 t10),.q (.d s102) .no (.ck 0 12) (L t101),.q (.d s103) .no .ef (.cl 98 [t100,t102]),.q (.d s104) .no .ef (.cl 116 [t98,t103]),Q s105 (.fa 3 t9),.q (.d s106) .no (.ck 0 14) (L t105),Q s107 (.fa 2 t10),.q (.d s108) .no (.ck 0 14) (L t107),.q (.d s109) .no .ef (.cl 116 [t106,t108]),Q s110 (.fa 2 t10),.q (.d s111) .no (.ck 0 15) (L t110),Q s112 (.fa 1 t10),.q (.d s113) .no (.ck 0 15) (L t112),.q (.d s114) .no .ef (.cl 98 [t111,t113]),.q (.d s115) .no .ef (.cl 116 [t109,t114]),Q s116 (.fa 3 t10),.q (.d s117) .no (.ck 0 17) (L t116),Q s118 (.fa 3 t10),.q (.d s119) .no (.ck 0 17) (L t118),.q (.d s120) .no .ef (.cl 98 [t117,t119]),.q (.d s121) .no .ef (.cl 116 [t115,t120]),Q s122 (.bd (.cons .np (.cons .np (.cons .np (.cons .np .nil)))) [(0,1,t73),(1,1,t90),(2,1,t104),(3,1,t121)]),Q s11 (.al (.cons .np (.cons .np (.cons .np (.cons .np .nil))))),.q .no .no .ef (.st 4 t11 t122)]) (.sq (.dr [Q s123 (.fa 0 t11),Q Xen (L t123),Q Xem (.fa 0 t10),Q Xel (L Xjd),.q (.d Xek) .no .ef (.cl 116 [Xje,Xjc]),Q Xej (.fa 1 t11),.q (.d Xei) .no (.ck 0 1) (L Xja),Q Xeh (.fa 1 t10),.q (.d Xeg) .no (.ck 0 1) (L Xi8),.q (.d Xef) .no .ef (.cl 116 [Xi9,Xi7]),Q Xee (.fa 2 t11),.q (.d Xed) .no (.ck 0 2) (L Xi5),Q Xec (.fa 2 t10),.q (.d Xeb) .no (.ck 0 2) (L Xi3),.q (.d Xea) .no .ef (.cl 116 [Xi4,Xi2]),Q Xd9 (.fa 3 t11),.q (.d Xd8) .no (.ck 0 3) (L Xi0),Q Xd7 (.fa 3 t10),.q (.d Xd6) .no (.ck 0 3) (L Xiy),.q (.d Xd5) .no .ef (.cl 116 [Xiz,Xix]),Q Xd4 (.bd (.cons .np (.cons .np (.cons .np (.cons .np .nil)))) [(0,1,Xjb),(1,1,Xi6),(2,1,Xi1),(3,1,Xiw)]),.q .no .no .ef (.st 4 t11 Xiv)]) (.sq (.sq (.rg [Q Xd3 (.fa 0 t11),Q Xd2 (L Xiu),Q Xd1 (.fa 0 t10),Q Xd0 (L Xis),Q Xdz (.cl 128 [Xit,Xir]),M Yhu Xiq,oq1 Xdy Yhu (.fa 1 t11),oq1 Xdx Yhu (L Xio),oq1 Xdw Yhu (.fa 1 t10),oq1 Xdv Yhu (L Xim),oq1 Xdu Yhu (.cl 128 [Xin,Xil]),Q Xdt (.pick Xip Xik kF),M Yht Xij,oq1 Xds Yht (.fa 2 t11),oq1 Xdr Yht (L Xih),oq1 Xdq Yht (.fa 2 t10),oq1 Xdp Yht (L Xif),oq1 Xdo Yht (.cl 128 [Xig,Xie]),Q Xdn (.pick Xii Xid kF),M Yhs Xic,oq1 Xdm Yhs (.fa 3 t11),oq1 Xdl Yhs (L Xia),oq1 Xdk Yhs (.fa 3 t10),oq1 Xdj Yhs (L Xh8),oq1 Xdi Yhs (.cl 128 [Xh9,Xh7]),Q Xdh (.pick Xib Xh6 kF)]) (.cd Xh5 (.sq (.rg [Q Xdg (.ld true 4 t11),Z (.st 4 t2 Xh4)]) .rt) .sk)) (.rg [Q Xdf (.ld true 4 t11),Z (.st 4 t10 Xh3)]))))))))))))))) [.c s2 true 4]
theorem Yla:Zak Tryd.prog 79=some rc79:=by kernel_rfl
def Xev:RF:=.f 1 (.sq (.rg [Q s1 (.bx t0),Q s2 (.mv (.c .np))]) (.sq (.rg [Q s6 (.ld true 8 t1),Q s7 (.cl 79 [t6]),Q s3 (.al (.cons .np (.cons .np (.cons .np (.cons .np .nil))))),Z (.st 4 t3 t7)]) (.sq (.dr [Q s8 (.ld true 8 t1),.q (.d s9) .no .ef (.cl 129 [t8,(k6 1),(k6 0),(k6 4)]),.q (.d s10) .no (.ck 0 1) (.ld true 8 t1),.q (.d s11) .no .ef (.cl 129 [t10,(k6 2),(k6 0),(k6 4)]),M s4 t9,M s5 t11]) (.sq (.dr [M s12 t4,Q s13 (.fa 0 t3),Q s14 (L t13),.q (.d s15) .no .ef (.cl 98 [t12,t14]),M s16 t4,.q (.d s17) .no .ef (.cl 98 [t15,t16]),M s18 t4,Q s19 (.fa 1 t3),.q (.d s20) .no (.ck 0 2) (L t19),.q (.d s21) .no .ef (.cl 98 [t18,t20]),M s22 t5,.q (.d s23) .no .ef (.cl 98 [t21,t22]),.q (.d s24) .no .ef (.cl 116 [t17,t23]),M s2 t24]) .rt)))) [.t s2]
theorem Yk9:Zak Tryd.prog 81=some Xev:=by kernel_rfl
def Xeu:RF:=.f 1 (.sq (.rg [Q s1 (.bx t0),Q s2 (.mv (.c .np))]) (.sq (.dr [Q s3 (.ld true 8 t1),.q (.d s4) .no .ef (.cl 127 [t3]),.q (.d s5) .no (.ck 0 1) (.ld true 8 t1),.q (.d s6) .no .ef (.cl 131 [t5]),.q (.d s7) .no (.ck 0 2) (.ld true 8 t1),.q (.d s8) .no .ef (.cl 132 [t7]),.q (.d s9) .no .ef (.cl 98 [t6,t8]),.q (.d s10) .no .ef (.cl 130 [t4,t9]),M s2 t10]) .rt)) [.t s2]
theorem Yk8:Zak Tryd.prog 82=some Xeu:=by kernel_rfl
def Xet:RF:=.f 1 (.sq (.rg [Q s1 (.bx t0),Q s2 (.mv (.c .np))]) (.sq (.dr [Q s3 (.ld true 8 t1),.q (.d s4) .no .ef (.cl 127 [t3]),.q (.d s5) .no (.ck 0 1) (.ld true 8 t1),.q (.d s6) .no .ef (.cl 133 [t5]),.q (.d s7) .no (.ck 0 2) (.ld true 8 t1),.q (.d s8) .no .ef (.cl 132 [t7]),.q (.d s9) .no .ef (.cl 98 [t6,t8]),.q (.d s10) .no .ef (.cl 130 [t4,t9]),M s2 t10]) .rt)) [.t s2]
theorem Yk7:Zak Tryd.prog 83=some Xet:=by kernel_rfl
def rc106:RF:=txt.rc106
theorem rc106_ok:Zak Tryd.prog 106=some rc106:=txt.rc106_ok
def rc108:RF:=txt.rc108
theorem rc108_ok:Zak Tryd.prog 108=some rc108:=txt.rc108_ok
def rc109:RF:=txt.rc109
theorem rc109_ok:Zak Tryd.prog 109=some rc109:=txt.rc109_ok
def Yru:RF:=.f 2 (.sq (.rg [Q s2 (.bx t0),Q s4 (.mv (.c .np))]) (.sq (.rg [Q s5 (.fa 1 t2),Q s6 (L t5),Q s7 (.ln false t6),M s8 t1,Q s9 (.cl 48 [t7,t8]),M s4 t9]) .rt)) [.t s4]
theorem Ydd:Zak Tryd.prog 115=some Yru:=by kernel_rfl
def rc122:RF:=txt.rc122
theorem rc122_ok:Zak Tryd.prog 122=some rc122:=txt.rc122_ok
def rc124:RF:=txt.rc124
theorem rc124_ok:Zak Tryd.prog 124=some rc124:=txt.rc124_ok
def rc125:RF:=txt.rc125
theorem rc125_ok:Zak Tryd.prog 125=some rc125:=txt.rc125_ok
def Yrs:RF:=.f 1 (.sq (.rg [Q s1 (.bx t0),Q s2 (.mv (.c .np))]) (.sq (.dr [Q s3 (.ld true 8 t1),.q (.d s4) .no .ef (.cl 129 [t3,(k6 1),(k6 0),(k6 4)]),.q (.d s5) .no (.ck 0 1) (.ld true 8 t1),.q (.d s6) .no .ef (.cl 129 [t5,(k6 2),(k6 0),(k6 4)]),.q (.d s7) .no .ef (.cl 116 [t4,t6]),M s2 t7]) .rt)) [.t s2]
theorem Ydb:Zak Tryd.prog 126=some Yrs:=by kernel_rfl
def Yrr:RF:=.f 1 (.sq (.rg [Q s1 (.bx t0),Q s2 (.mv (.c .np))]) (.sq (.dr [.q (.d s3) .no (.ck 0 1) (.ld true 8 t1),Q s4 (.ld true 8 t1),.q (.d s5) .no .ef (.cl 55 [t4]),.q (.d s6) .no .ef (.cl 141 [t3,t5]),M s2 t6]) .rt)) [.t s2]
theorem Yda:Zak Tryd.prog 127=some Yrr:=by kernel_rfl
def Yrq:RF:=.f 1 (.sq (.rg [Q s1 (.bx t0),Q s2 (.mv (.c .np))]) (.sq (.dr [.q (.d s3) .no (.ck 0 1) (.ld true 8 t1),Q s4 (.ld true 8 t1),.q (.d s5) .no .ef (.cl 53 [t4]),.q (.d s6) .no .ef (.cl 57 [t3,t5]),M s2 t6]) .rt)) [.t s2]
theorem Yc9:Zak Tryd.prog 131=some Yrq:=by kernel_rfl
def Yrp:RF:=.f 1 (.sq (.rg [Q s1 (.bx t0),Q s2 (.mv (.c .np))]) (.sq (.dr [.q (.d s3) .no (.ck 0 1) (.ld true 8 t1),Q s4 (.ld true 8 t1),.q (.d s5) .no .ef (.cl 50 [t4]),.q (.d s6) .no .ef (.cl 57 [t3,t5]),M s2 t6]) .rt)) [.t s2]
theorem Yc8:Zak Tryd.prog 132=some Yrp:=by kernel_rfl
def Yro:RF:=.f 1 (.sq (.rg [Q s1 (.bx t0),Q s2 (.mv (.c .np))]) (.sq (.dr [.q (.d s3) .no (.ck 0 1) (.ld true 8 t1),Q s4 (.ld true 8 t1),.q (.d s5) .no .ef (.cl 52 [t4]),.q (.d s6) .no .ef (.cl 57 [t3,t5]),M s2 t6]) .rt)) [.t s2]
theorem Yc7:Zak Tryd.prog 133=some Yro:=by kernel_rfl
def fsL:List (Nat × RF):=[(22,rc22),(28,Xfa),(29,rc29),(45,rc45),(47,rc47),(51,rc51),(53,Xe4),(56,Xe3),(57,Xe2),(63,rc63),(74,rc74),(76,rc76),(77,rc77),(78,rc78),(79,rc79),(81,Xev),(82,Xeu),(83,Xet),(106,rc106),(108,rc108),(109,rc109),(115,Yru),(122,rc122),(124,rc124),(125,rc125),(126,Yrs),(127,Yrr),(131,Yrq),(132,Yrp),(133,Yro)]
theorem fsL_ok:∀ e ∈ fsL,Zak Tryd.prog e.1=some e.2:=by
 unfold fsL
 refine List.forall_mem_cons.2 ⟨rc22_ok,?_⟩
 refine List.forall_mem_cons.2 ⟨Ylp,?_⟩
 refine List.forall_mem_cons.2 ⟨rc29_ok,?_⟩
 refine List.forall_mem_cons.2 ⟨rc45_ok,?_⟩
 refine List.forall_mem_cons.2 ⟨rc47_ok,?_⟩
 refine List.forall_mem_cons.2 ⟨rc51_ok,?_⟩
 refine List.forall_mem_cons.2 ⟨Ylj,?_⟩
 refine List.forall_mem_cons.2 ⟨Yli,?_⟩
 refine List.forall_mem_cons.2 ⟨Ylh,?_⟩
 refine List.forall_mem_cons.2 ⟨rc63_ok,?_⟩
 refine List.forall_mem_cons.2 ⟨rc74_ok,?_⟩
 refine List.forall_mem_cons.2 ⟨rc76_ok,?_⟩
 refine List.forall_mem_cons.2 ⟨rc77_ok,?_⟩
 refine List.forall_mem_cons.2 ⟨rc78_ok,?_⟩
 refine List.forall_mem_cons.2 ⟨Yla,?_⟩
 refine List.forall_mem_cons.2 ⟨Yk9,?_⟩
 refine List.forall_mem_cons.2 ⟨Yk8,?_⟩
 refine List.forall_mem_cons.2 ⟨Yk7,?_⟩
 refine List.forall_mem_cons.2 ⟨rc106_ok,?_⟩
 refine List.forall_mem_cons.2 ⟨rc108_ok,?_⟩
 refine List.forall_mem_cons.2 ⟨rc109_ok,?_⟩
 refine List.forall_mem_cons.2 ⟨Ydd,?_⟩
 refine List.forall_mem_cons.2 ⟨rc122_ok,?_⟩
 refine List.forall_mem_cons.2 ⟨rc124_ok,?_⟩
 refine List.forall_mem_cons.2 ⟨rc125_ok,?_⟩
 refine List.forall_mem_cons.2 ⟨Ydb,?_⟩
 refine List.forall_mem_cons.2 ⟨Yda,?_⟩
 refine List.forall_mem_cons.2 ⟨Yc9,?_⟩
 refine List.forall_mem_cons.2 ⟨Yc8,?_⟩
 refine List.forall_mem_cons.2 ⟨Yc7,?_⟩
 exact fun _ h=>(by cases h)
end Go.Proofs.YthcnhbclagegeaaDoor.txtP
