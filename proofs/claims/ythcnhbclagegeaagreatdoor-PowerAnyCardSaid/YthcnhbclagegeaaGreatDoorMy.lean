/-
  The document's four that keep order: its loop by the evaluator, round by round. Conditions: a graph that may be, in memory.
-/
import Derived.Test.YthcnhbclagegeaaGreatDoorMx
set_option maxRecDepth 20000
set_option maxHeartbeats 4000000
namespace Go.Proofs.YthcnhbclagegeaaGreatDoor
open Go.RowKit RelA
namespace ToldP
namespace PR
open Go.Rn
open PP (Zan Yhz Zmv Zir Zt6)
variable {g:Gr} {w0:World} {MM:M4}
noncomputable def z0:RV:=.fn 1 (.cons gR .nil)
noncomputable def z1:RV:=.fn 2 (.cons gR .nil)
noncomputable def z2:RV:=.fn 5 (.cons gR .nil)
noncomputable def z3:RV:=.fn 70 (.cons gR (.cons (.i .i64 1) (.cons (.i .i64 0) (.cons (.i .i64 4) .nil))))
noncomputable def z4:RV:=.fn 71 (.cons gR (.cons (.i .i64 2) (.cons (.i .i64 0) (.cons (.i .i64 4) .nil))))
noncomputable def z5:RV:=jB 10 2 z3 z4
noncomputable def z6:RV:=.fn 31 (.cons nR (.cons (opS 5) .nil))
noncomputable def z7:RV:=.fn 32 (.cons nR (.cons (opS 6) .nil))
noncomputable def z8:RV:=jB 13 2 z7 z5
noncomputable def z9:RV:=.fn 33 (.cons nR (.cons (opS 7) .nil))
noncomputable def z10:RV:=jB 13 2 z9 z5
noncomputable def z11:RV:=jU 14 2 z0
noncomputable def z12:RV:=jB 13 2 z11 z1
noncomputable def z13:RV:=jG 22 2 z2
noncomputable def z14:RV:=jH 21 2 z12 false
noncomputable def z15:RV:=jH 21 2 z0 false
noncomputable def z16:RV:=jB 13 2 z14 z15
noncomputable def z17:RV:=jB 11 2 z13 z16
noncomputable def z18:RV:=jH 21 2 z1 false
noncomputable def z19:RV:=jB 13 2 z18 z15
noncomputable def z20:RV:=jB 11 2 z13 z19
noncomputable def z21:RV:=jH 20 2 z0 true
noncomputable def z22:RV:=jB 10 2 z6 z17
noncomputable def z23:RV:=jB 10 2 z22 z21
noncomputable def z24:RV:=.fn 34 (.cons nR (.cons .ns .nil))
noncomputable def z25:RV:=jB 10 2 z10 z20
noncomputable def z26:RV:=jB 10 2 z6 z13
noncomputable def z27:RV:=jB 10 2 z26 z8
noncomputable def f0:RV:=.fn 104 .nil
noncomputable def f1:RV:=.fn 105 .nil
noncomputable def f2:RV:=.fn 106 .nil
noncomputable def f3:RV:=.fn 107 .nil
noncomputable def m0:RV:=.fn 90 .nil
noncomputable def m1:RV:=.fn 91 .nil
noncomputable def m2:RV:=.fn 92 .nil
noncomputable def m3:RV:=.fn 93 .nil
noncomputable def z36:RV:=jB 13 2 f1 f2
noncomputable def z37:RV:=jB 13 2 f0 f0
noncomputable def z38:RV:=jB 10 2 f0 f2
noncomputable def z39:RV:=jB 10 2 z38 z36
noncomputable def z40:RV:=jB 10 2 z39 z37
noncomputable def z41:RV:=jB 13 2 f1 f3
noncomputable def z42:RV:=jB 13 2 f0 f1
noncomputable def z43:RV:=jB 10 2 f0 f3
noncomputable def z44:RV:=jB 10 2 z43 z41
noncomputable def z45:RV:=jB 10 2 z44 z42
noncomputable def z46:RV:=jB 13 2 f2 f0
noncomputable def z47:RV:=jB 13 2 f3 f2
noncomputable def z48:RV:=jB 10 2 f2 z46
noncomputable def z49:RV:=jB 10 2 z48 z47
noncomputable def z50:RV:=jB 13 2 f2 f1
noncomputable def z51:RV:=jB 13 2 f3 f3
noncomputable def z52:RV:=jB 10 2 f3 f2
noncomputable def z53:RV:=jB 10 2 z52 z50
noncomputable def z54:RV:=jB 10 2 z53 z51
noncomputable def z55:RV:=jB 10 2 z40 f0
noncomputable def z56:RV:=jB 10 2 z45 f1
noncomputable def z57:RV:=jB 10 2 z49 f2
noncomputable def z58:RV:=jB 10 2 z54 f3
noncomputable def z59:RV:=jB 13 2 m1 m2
noncomputable def z60:RV:=jB 13 2 m0 m0
noncomputable def z61:RV:=jB 10 2 f0 m2
noncomputable def z62:RV:=jB 10 2 z61 z59
noncomputable def z63:RV:=jB 10 2 z62 z60
noncomputable def z64:RV:=jB 13 2 m1 m3
noncomputable def z65:RV:=jB 13 2 m0 m1
noncomputable def z66:RV:=jB 10 2 m0 m3
noncomputable def z67:RV:=jB 10 2 z66 z64
noncomputable def z68:RV:=jB 10 2 z67 z65
noncomputable def z69:RV:=jB 13 2 m2 m0
noncomputable def z70:RV:=jB 13 2 m3 m2
noncomputable def z71:RV:=jB 10 2 f2 z69
noncomputable def z72:RV:=jB 10 2 z71 z70
noncomputable def z73:RV:=jB 13 2 m2 m1
noncomputable def z74:RV:=jB 13 2 m3 m3
noncomputable def z75:RV:=jB 10 2 f3 m2
noncomputable def z76:RV:=jB 10 2 z75 z73
noncomputable def z77:RV:=jB 10 2 z76 z74
noncomputable def z78:RV:=jB 10 2 z63 m0
noncomputable def z79:RV:=jB 10 2 z68 m1
noncomputable def z80:RV:=jB 10 2 z72 m2
noncomputable def z81:RV:=jB 10 2 z77 m3
noncomputable def bd:Code:=(Tryz.f177.body).getD .skip
noncomputable def b1:Code:=cdR bd
noncomputable def b2:Code:=cdR b1
noncomputable def b3:Code:=cdR b2
noncomputable def b4:Code:=cdR b3
noncomputable def b5:Code:=cdR b4
noncomputable def b6:Code:=cdR b5
noncomputable def b7:Code:=cdR b6
noncomputable def b8:Code:=cdR b7
noncomputable def lp:Code:=cdI (cdI b8)
theorem e_bd:Tryz.f177.body=some bd:=by kernel_rfl
theorem e0:bd=.seq (cdL bd) b1:=by kernel_rfl
theorem e1:b1=.seq (cdL b1) b2:=by kernel_rfl
theorem e2:b2=.seq (cdL b2) b3:=by kernel_rfl
theorem e3:b3=.seq (cdL b3) b4:=by kernel_rfl
theorem e4:b4=.seq (cdL b4) b5:=by kernel_rfl
theorem e5:b5=.seq (cdL b5) b6:=by kernel_rfl
theorem e6:b6=.seq (cdL b6) b7:=by kernel_rfl
theorem e7:b7=.seq (cdL b7) b8:=by kernel_rfl
theorem e8:b8=.block 0 (.loop lp):=by kernel_rfl
def q1:RC:=rkR (rkF txtP.rc177)
def q2:RC:=rkR q1
def q3:RC:=rkR q2
def q4:RC:=rkR q3
def q5:RC:=rkR q4
def q6:RC:=rkR q5
def q7:RC:=rkR q6
def q8:RC:=rkR q7
def ql:RC:=rkI (rkI q8)
noncomputable abbrev NT:Nat:=Tryz.f177.ntmps
theorem hnt:NT<1000000:=of_decide_eq_true (by kernel_rfl)
theorem globs:Tryz.prog.globals.size<=100:=of_decide_eq_true (by kernel_rfl)
theorem k0:Zb9 Tryz.prog NT 177 (cdL bd) 0=rkL (rkF txtP.rc177):=by kernel_rfl
theorem n0:Zbf (cdL bd)=[]:=by kernel_rfl
theorem k1:Zb9 Tryz.prog NT 177 (cdL b1) 0=rkL q1:=by kernel_rfl
theorem n1:Zbf (cdL b1)=[]:=by kernel_rfl
theorem k2:Zb9 Tryz.prog NT 177 (cdL b2) 0=rkL q2:=by kernel_rfl
theorem n2:Zbf (cdL b2)=[]:=by kernel_rfl
theorem k3:Zb9 Tryz.prog NT 177 (cdL b3) 0=rkL q3:=by kernel_rfl
theorem n3:Zbf (cdL b3)=[]:=by kernel_rfl
theorem k4:Zb9 Tryz.prog NT 177 (cdL b4) 0=rkL q4:=by kernel_rfl
theorem n4:Zbf (cdL b4)=[]:=by kernel_rfl
theorem k5:Zb9 Tryz.prog NT 177 (cdL b5) 0=rkL q5:=by kernel_rfl
theorem n5:Zbf (cdL b5)=[]:=by kernel_rfl
theorem k6:Zb9 Tryz.prog NT 177 (cdL b6) 0=rkL q6:=by kernel_rfl
theorem n6:Zbf (cdL b6)=[]:=by kernel_rfl
theorem k7:Zb9 Tryz.prog NT 177 (cdL b7) 0=rkL q7:=by kernel_rfl
theorem n7:Zbf (cdL b7)=[]:=by kernel_rfl
theorem k8:Zb9 Tryz.prog NT 177 lp 0=ql:=by kernel_rfl
theorem n8:Zbf lp=[]:=by kernel_rfl
noncomputable def tl:List (Nat×Nat×RV):=[(101,0,chW Zq3),(96,0,chW Zyr),(109,0,chW Zq5),(142,0,chW Zmk),(94,0,chW Zmh),(163,0,chW Zmm),(93,0,chW Zml),(103,0,chW Zyq),(108,0,chW Zys),(98,0,chW Zq4),(157,0,chW Zmi),(175,0,chW Zmj)]
theorem tl_ok {M:M4} (c:Cx g none [] 0 w0):∀ e∈tl,Tells Tryz.prog (rho g none [] 0 w0 M) e:=by
 unfold tl
 refine List.forall_mem_cons.2 ⟨Yct c,?_⟩
 refine List.forall_mem_cons.2 ⟨Yie c,?_⟩
 refine List.forall_mem_cons.2 ⟨Ycv c,?_⟩
 refine List.forall_mem_cons.2 ⟨Zvp c,?_⟩
 refine List.forall_mem_cons.2 ⟨Zvm c,?_⟩
 refine List.forall_mem_cons.2 ⟨Zvr c,?_⟩
 refine List.forall_mem_cons.2 ⟨Zvq c,?_⟩
 refine List.forall_mem_cons.2 ⟨Yid c,?_⟩
 refine List.forall_mem_cons.2 ⟨Yif c,?_⟩
 refine List.forall_mem_cons.2 ⟨Ycu c,?_⟩
 refine List.forall_mem_cons.2 ⟨Zvn c,?_⟩
 refine List.forall_mem_cons.2 ⟨Zvo c,?_⟩
 exact fun _ h=>by cases h
noncomputable def Zyw (x0 x1 x2 x3:Bool):List (RV×RV):=[(.cons (.tup (.cons (.mp 2) z55)) (.cons (.tup (.cons (.mp 2) f0)) .nil),.b x0),(.cons (.tup (.cons (.mp 2) z56)) (.cons (.tup (.cons (.mp 2) f1)) .nil),.b x1),(.cons (.tup (.cons (.mp 2) z57)) (.cons (.tup (.cons (.mp 2) f2)) .nil),.b x2),(.cons (.tup (.cons (.mp 2) z58)) (.cons (.tup (.cons (.mp 2) f3)) .nil),.b x3)]
noncomputable def Zyv (x0 x1 x2 x3:Bool):List (RV×RV):=[(.cons (.tup (.cons (.mp 2) z78)) (.cons (.tup (.cons (.mp 2) m0)) .nil),.b x0),(.cons (.tup (.cons (.mp 2) z79)) (.cons (.tup (.cons (.mp 2) m1)) .nil),.b x1),(.cons (.tup (.cons (.mp 2) z80)) (.cons (.tup (.cons (.mp 2) m2)) .nil),.b x2),(.cons (.tup (.cons (.mp 2) z81)) (.cons (.tup (.cons (.mp 2) m3)) .nil),.b x3)]
noncomputable def tlI (l:Bool->Bool->Bool->Bool->List (RV×RV)) (x0 x1 x2 x3:Bool):List (Nat×Nat×RV):=(198,1,chV (l x0 x1 x2 x3))::tl
def Up (g:Gr) (M:M4):Prop:=∀ c,c<4->Wi (Zac g c) (M c)
theorem a0 {A M0 M1 M2:Nat->Nat->Bool} (h:Wi A M0):orM (orM (orM (orM A M2) (Zax M1 M2)) (Zax M0 M0)) M0=orM (orM (orM M0 M2) (Zax M1 M2)) (Zax M0 M0):=by
 funext i j
 have:=h i j
 unfold RelA.orM
 generalize A i j=a at *;generalize M0 i j=b at *;generalize M2 i j=c at *;generalize Zax M1 M2 i j=d at *;generalize Zax M0 M0 i j=e at *
 cases a<;>cases b<;>cases c<;>cases d<;>cases e<;>simp_all
theorem a1 {M0 M1 M3:Nat->Nat->Bool}:orM (orM (orM (orM M0 M3) (Zax M1 M3)) (Zax M0 M1)) M1=orM (orM (orM (orM M1 M0) M3) (Zax M1 M3)) (Zax M0 M1):=by
 funext i j
 unfold RelA.orM
 generalize M0 i j=a;generalize M1 i j=b;generalize M3 i j=c;generalize Zax M1 M3 i j=d;generalize Zax M0 M1 i j=e
 cases a<;>cases b<;>cases c<;>cases d<;>cases e<;>rfl
theorem a2 {A M0 M2 M3:Nat->Nat->Bool} (h:Wi A M2):orM (orM (orM A (Zax M2 M0)) (Zax M3 M2)) M2=orM (orM M2 (Zax M2 M0)) (Zax M3 M2):=by
 funext i j
 have:=h i j
 unfold RelA.orM
 generalize A i j=a at *;generalize M2 i j=b at *;generalize Zax M2 M0 i j=d at *;generalize Zax M3 M2 i j=e at *
 cases a<;>cases b<;>cases d<;>cases e<;>simp_all
theorem a3 {A M1 M2 M3:Nat->Nat->Bool} (h:Wi A M3):orM (orM (orM (orM A M2) (Zax M2 M1)) (Zax M3 M3)) M3=orM (orM (orM M3 M2) (Zax M2 M1)) (Zax M3 M3):=by
 funext i j
 have:=h i j
 unfold RelA.orM
 generalize A i j=a at *;generalize M3 i j=b at *;generalize M2 i j=c at *;generalize Zax M2 M1 i j=d at *;generalize Zax M3 M3 i j=e at *
 cases a<;>cases b<;>cases c<;>cases d<;>cases e<;>simp_all
theorem Yik (M:M4):mx g [] M z55=Zbt (Zac g) 0/\mx g [] M z56=Zbt (Zac g) 1/\mx g [] M z57=Zbt (Zac g) 2/\mx g [] M z58=Zbt (Zac g) 3:=⟨a0 (fun _ _ a=>a),a1,a2 (fun _ _ a=>a),a3 (fun _ _ a=>a)⟩
theorem Yxm (M:M4):mx g [] M f0=(Zac g) 0/\mx g [] M f1=(Zac g) 1/\mx g [] M f2=(Zac g) 2/\mx g [] M f3=(Zac g) 3:=⟨rfl,rfl,rfl,rfl⟩
theorem Yij (M:M4) (h:Up g M):mx g [] M z78=Zbt M 0/\mx g [] M z79=Zbt M 1/\mx g [] M z80=Zbt M 2/\mx g [] M z81=Zbt M 3:=⟨a0 (h 0 (by omega)),a1,a2 (h 2 (by omega)),a3 (h 3 (by omega))⟩
theorem Yxl (M:M4):mx g [] M m0=M 0/\mx g [] M m1=M 1/\mx g [] M m2=M 2/\mx g [] M m3=M 3:=⟨rfl,rfl,rfl,rfl⟩
theorem Zpu:∀ k,Up g (Zaq k (Zac g))
 | 0=>fun _ _ _ _ a=>a
 | k+1=>fun c hc i j a=>Yec _ c hc i j (Zpu k c hc i j a)
theorem tlI_ok {M:M4} {l:Bool->Bool->Bool->Bool->List (RV×RV)} {x0 x1 x2 x3:Bool} (c:Cx g none [] 0 w0)
  (hl:∀ e∈l x0 x1 x2 x3,∃ q1 q2 x,e=(.cons (.tup (.cons (.mp 2) q1)) (.cons (.tup (.cons (.mp 2) q2)) .nil),.b x)/\(x=true↔Wi (mx g [] M q1) (mx g [] M q2))):∀ e∈tlI l x0 x1 x2 x3,Tells Tryz.prog (rho g none [] 0 w0 M) e:=by
 unfold tlI
 refine List.forall_mem_cons.2 ⟨Zau (by kernel_rfl) (fun x hx=>?_),tl_ok c⟩
 have hs:∀ (b c n:Nat) (M S:Nat->Nat->Bool) (w:World),Rk 2 w b n M->Rk 2 w c n S->n<=40->∀ (x:Bool),(x=true↔Wi M S)->Calls Tryz.prog 198 #[.pointer (some ⟨b,0,none⟩),.pointer (some ⟨c,0,none⟩)] w fun e w'=>e=.returned (.bool x)/\Below w.heap.size w w':=fun b c n M S w h1 h2 hn x hx=>Ypv b c n M S w h1 h2 hn x hx
 obtain⟨q1,q2,y,rfl,h⟩:=hl x hx
 exact Zhq c 2 hs h
noncomputable def cl:Cl':=Zcc ysE (inL txtP.fsL) (fun _ _=>none) (kcL tl) 60
noncomputable def clI (l:Bool->Bool->Bool->Bool->List (RV×RV)) (x0 x1 x2 x3:Bool):Cl':=Zcc ysE (inL txtP.fsL) (fun _ _=>none) (kcL (tlI l x0 x1 x2 x3)) 60
noncomputable def s0:BR:=code ysE cl 100 (rkL (rkF txtP.rc177)) (lay (.cons gR .nil) te 0) he 100
noncomputable def s1:BR:=andThen s0 (code ysE cl 100 (rkL q1))
noncomputable def s2:BR:=andThen s1 (code ysE cl 100 (rkL q2))
noncomputable def s3:BR:=andThen s2 (code ysE cl 100 (rkL q3))
noncomputable def s4:BR:=andThen s3 (code ysE cl 100 (rkL q4))
noncomputable def s5:BR:=andThen s4 (code ysE cl 100 (rkL q5))
noncomputable def s6:BR:=andThen s5 (code ysE cl 100 (rkL q6))
noncomputable def s7:BR:=andThen s6 (code ysE cl 100 (rkL q7))
set_option maxRecDepth 100000
theorem i0:Zkt s0=true:=by kernel_rfl
theorem i1:Zkt s1=true:=by kernel_rfl
theorem i2:Zkt s2=true:=by kernel_rfl
theorem i3:Zkt s3=true:=by kernel_rfl
theorem i4:Zkt s4=true:=by kernel_rfl
theorem i5:Zkt s5=true:=by kernel_rfl
theorem i6:Zkt s6=true:=by kernel_rfl
theorem i7:Zkt s7=true:=by kernel_rfl
noncomputable def stA:Stt:=⟨[(2,.p 106 0),(9,.p 104 0),(10,.p 105 0)],[(100,(.cons (.mp 2) f0),137,(.cons (.mp 2) z23)),(101,(.cons (.mp 2) f1),117,(.cons (.mp 2) z24)),(102,(.cons (.mp 2) f2),152,(.cons (.mp 2) z25)),(103,(.cons (.mp 2) f3),157,(.cons (.mp 2) z27))],[(104,[.p 100 0,.p 101 0,.p 102 0,.p 103 0],4,158),(105,[.p 100 0,.p 101 0,.p 102 0,.p 103 0],4,159),(106,[.np,.np,.np,.np],4,101)]⟩
noncomputable def stB:Stt:=⟨[(2,.p 110 0),(9,.p 108 0),(10,.p 109 0)],[(100,(.cons (.mp 2) f0),100,(.cons (.mp 2) f0)),(101,(.cons (.mp 2) f1),101,(.cons (.mp 2) f1)),(102,(.cons (.mp 2) f2),102,(.cons (.mp 2) f2)),(103,(.cons (.mp 2) f3),103,(.cons (.mp 2) f3)),(104,(.cons (.mp 2) m0),127,(.cons (.mp 2) z55)),(105,(.cons (.mp 2) m1),128,(.cons (.mp 2) z56)),(106,(.cons (.mp 2) m2),129,(.cons (.mp 2) z57)),(107,(.cons (.mp 2) m3),130,(.cons (.mp 2) z58))],[(108,[.p 100 0,.p 101 0,.p 102 0,.p 103 0],4,104),(109,[.p 104 0,.p 105 0,.p 106 0,.p 107 0],4,105),(110,[.np,.np,.np,.np],4,106)]⟩
noncomputable def stC:Stt:=⟨[(2,.p 110 0),(9,.p 108 0),(10,.p 109 0)],[(100,(.cons (.mp 2) f0),100,(.cons (.mp 2) f0)),(101,(.cons (.mp 2) f1),101,(.cons (.mp 2) f1)),(102,(.cons (.mp 2) f2),102,(.cons (.mp 2) f2)),(103,(.cons (.mp 2) f3),103,(.cons (.mp 2) f3)),(104,(.cons (.mp 2) m0),131,(.cons (.mp 2) z78)),(105,(.cons (.mp 2) m1),132,(.cons (.mp 2) z79)),(106,(.cons (.mp 2) m2),133,(.cons (.mp 2) z80)),(107,(.cons (.mp 2) m3),134,(.cons (.mp 2) z81))],[(108,[.p 100 0,.p 101 0,.p 102 0,.p 103 0],4,108),(109,[.p 104 0,.p 105 0,.p 106 0,.p 107 0],4,109),(110,[.np,.np,.np,.np],4,110)]⟩
noncomputable def Zjx (x0 x1 x2 x3:Bool):BR:=code ysE (clI Zyw x0 x1 x2 x3) 105 ql stA.ft stA.ht 107
noncomputable def Zjw (x0 x1 x2 x3:Bool):BR:=code ysE (clI Zyv x0 x1 x2 x3) 109 ql stB.ft stB.ht 111
noncomputable def bodyOk (b:Bool->Bool->Bool->Bool->BR) (st:Stt) (x0 x1 x2 x3:Bool):Bool:=bf (Zkt (b x0 x1 x2 x3)) (bf (Nat.ble (nB (b x0 x1 x2 x3)) 1000000) (st.okB (tB (b x0 x1 x2 x3)) (hB (b x0 x1 x2 x3))) false) false
theorem Xbh (x1 x2 x3:Bool):bodyOk Zjx stB false x1 x2 x3=true:=by kernel_rfl
theorem Xbg (x2 x3:Bool):bodyOk Zjx stB true false x2 x3=true:=by kernel_rfl
theorem Xbf (x3:Bool):bodyOk Zjx stB true true false x3=true:=by kernel_rfl
theorem Xbe:bodyOk Zjx stB true true true false=true:=by kernel_rfl
theorem Xbd (x1 x2 x3:Bool):bodyOk Zjw stC false x1 x2 x3=true:=by kernel_rfl
theorem Xbc (x2 x3:Bool):bodyOk Zjw stC true false x2 x3=true:=by kernel_rfl
theorem Xbb (x3:Bool):bodyOk Zjw stC true true false x3=true:=by kernel_rfl
theorem Xba:bodyOk Zjw stC true true true false=true:=by kernel_rfl
noncomputable def stEA:Stt:=⟨[(2,.p 104 0)],[(100,(.cons (.mp 2) (.fn 100 (.cons gR .nil))),127,(.cons (.mp 2) z55)),(101,(.cons (.mp 2) (.fn 101 (.cons gR .nil))),128,(.cons (.mp 2) z56)),(102,(.cons (.mp 2) (.fn 102 (.cons gR .nil))),129,(.cons (.mp 2) z57)),(103,(.cons (.mp 2) (.fn 103 (.cons gR .nil))),130,(.cons (.mp 2) z58))],[(104,[.p 100 0,.p 101 0,.p 102 0,.p 103 0],4,106)]⟩
noncomputable def stEB:Stt:=⟨[(2,.p 104 0)],[(100,(.cons (.mp 2) (.fn 100 (.cons gR .nil))),131,(.cons (.mp 2) z78)),(101,(.cons (.mp 2) (.fn 101 (.cons gR .nil))),132,(.cons (.mp 2) z79)),(102,(.cons (.mp 2) (.fn 102 (.cons gR .nil))),133,(.cons (.mp 2) z80)),(103,(.cons (.mp 2) (.fn 103 (.cons gR .nil))),134,(.cons (.mp 2) z81))],[(104,[.p 100 0,.p 101 0,.p 102 0,.p 103 0],4,110)]⟩
theorem Yry:Ynp (Zjx true true true true)=true:=by kernel_rfl
theorem Yj5:Nat.ble (nB (Zjx true true true true)) 1000000=true:=by kernel_rfl
theorem Yrx:stEA.okB (tB (Zjx true true true true)) (hB (Zjx true true true true))=true:=by kernel_rfl
theorem Ylf:stEA.fine=true:=by kernel_rfl
theorem Yp7:(stEA.old.all fun e=>decide (100<=e.1->105<=e.2)&&decide (e.1<105))=true:=by kernel_rfl
theorem Yrw:Ynp (Zjw true true true true)=true:=by kernel_rfl
theorem Yj4:Nat.ble (nB (Zjw true true true true)) 1000000=true:=by kernel_rfl
theorem Yrv:stEB.okB (tB (Zjw true true true true)) (hB (Zjw true true true true))=true:=by kernel_rfl
theorem Yle:stEB.fine=true:=by kernel_rfl
theorem Yp6:(stEB.old.all fun e=>decide (100<=e.1->109<=e.2)&&decide (e.1<105))=true:=by kernel_rfl
theorem Yrt:stA.fine=true:=by kernel_rfl
theorem fineB:stB.fine=true:=by kernel_rfl
theorem Yrs:stC.fine=true:=by kernel_rfl
theorem okA:stA.okB (tB s7) (hB s7)=true:=by kernel_rfl
theorem Yxi:(stA.old.all fun e=>decide (105<=e.1->100<=e.2)&&decide (e.1<107))=true:=by kernel_rfl
theorem ownB:(stB.old.all fun e=>decide (109<=e.1->105<=e.2)&&decide (e.1<111))=true:=by kernel_rfl
theorem Yxh:(stC.old.all fun e=>decide (109<=e.1->109<=e.2)&&decide (e.1<111))=true:=by kernel_rfl
theorem j0:Nat.ble 100 (nB s0)=true:=by kernel_rfl
theorem j1:Nat.ble 100 (nB s1)=true:=by kernel_rfl
theorem j2:Nat.ble 100 (nB s2)=true:=by kernel_rfl
theorem j3:Nat.ble 100 (nB s3)=true:=by kernel_rfl
theorem j4:Nat.ble 100 (nB s4)=true:=by kernel_rfl
theorem j5:Nat.ble 100 (nB s5)=true:=by kernel_rfl
theorem j6:Nat.ble 100 (nB s6)=true:=by kernel_rfl
theorem j7:Nat.ble (nB s7) 1000000=true:=by kernel_rfl
theorem krs:Tryz.f177.results.toList.mapM (Zen Tryz.prog NT)=some (Yhz txtP.rc177):=by kernel_rfl
theorem Yri:ret stEA.ft stEA.ht 105 (Yhz txtP.rc177)=.ok (.agg (.cons (.p 100 0) (.cons (.p 101 0) (.cons (.p 102 0) (.cons (.p 103 0) .nil))))) stEA.ht 105:=by kernel_rfl
def ks:RV:=.cons (.mp 2) (.cons (.mp 2) (.cons (.mp 2) (.cons (.mp 2) .nil)))
theorem hx0:hg stEA.ht 100=.bk (cst ce (.tup (.cons (.mp 2) (.fn 100 (.cons gR .nil)))) 0) Za2:=by kernel_rfl
theorem hx1:hg stEA.ht 101=.bk (cst ce (.tup (.cons (.mp 2) (.fn 101 (.cons gR .nil)))) 0) Za2:=by kernel_rfl
theorem hx2:hg stEA.ht 102=.bk (cst ce (.tup (.cons (.mp 2) (.fn 102 (.cons gR .nil)))) 0) Za2:=by kernel_rfl
theorem hx3:hg stEA.ht 103=.bk (cst ce (.tup (.cons (.mp 2) (.fn 103 (.cons gR .nil)))) 0) Za2:=by kernel_rfl
theorem objs4 {m:Mp} {u:Value} {w2 ws:World} (hu:den (rho g none [] 0 w0 MM) m (.agg (.cons (.p 100 0) (.cons (.p 101 0) (.cons (.p 102 0) (.cons (.p 103 0) .nil))))) u) (hs:Sim Tryz.prog (rho g none [] 0 w0 MM) m 100 stEA.ht w2) (ho:Go.Rn.Old ws w2)
  (hown:∀ b c z B O Z,100<=b->hg stEA.ht b=.bk c z->m b=some (B,O,Z)->ws.heap.size<=B):∃ Bs,Ending.returned u=.returned (wrapV 33554435 Bs)/\Objs (rho g none [] 0 w0 MM) (.cons gR .nil) ws.heap.size w2 ks 100 Bs/\Go.Rn.Old ws w2:=by
 obtain⟨cs,hc,_,rfl⟩:=hu
 obtain⟨v0,y0,rfl,⟨B0,O0,Z0,p0,rfl⟩,hc1⟩:=denC_cons.1 hc
 obtain⟨v1,y1,rfl,⟨B1,O1,Z1,p1,rfl⟩,hc2⟩:=denC_cons.1 hc1
 obtain⟨v2,y2,rfl,⟨B2,O2,Z2,p2,rfl⟩,hc3⟩:=denC_cons.1 hc2
 obtain⟨v3,y3,rfl,⟨B3,O3,Z3,p3,rfl⟩,hc4⟩:=denC_cons.1 hc3
 obtain rfl:=denC_nil.1 hc4
 obtain⟨_,_,C0,el0,fr0,q0,h0,t0⟩:=hs.told hx0 (Zl9 _)
 obtain⟨_,_,C1,el1,fr1,q1,h1,t1⟩:=hs.told hx1 (Zl9 _)
 obtain⟨_,_,C2,el2,fr2,q2,h2,t2⟩:=hs.told hx2 (Zl9 _)
 obtain⟨_,_,C3,el3,fr3,q3,h3,t3⟩:=hs.told hx3 (Zl9 _)
 rw[p0] at q0;rw[p1] at q1;rw[p2] at q2;rw[p3] at q3
 cases q0;cases q1;cases q2;cases q3
 have n01:B0≠B1:=fun e=>by subst e;exact absurd (hs.inj _ _ _ _ _ _ _ _ _ _ _ hx0 hx1 p0 p1) (by decide)
 have n02:B0≠B2:=fun e=>by subst e;exact absurd (hs.inj _ _ _ _ _ _ _ _ _ _ _ hx0 hx2 p0 p2) (by decide)
 have n03:B0≠B3:=fun e=>by subst e;exact absurd (hs.inj _ _ _ _ _ _ _ _ _ _ _ hx0 hx3 p0 p3) (by decide)
 have n12:B1≠B2:=fun e=>by subst e;exact absurd (hs.inj _ _ _ _ _ _ _ _ _ _ _ hx1 hx2 p1 p2) (by decide)
 have n13:B1≠B3:=fun e=>by subst e;exact absurd (hs.inj _ _ _ _ _ _ _ _ _ _ _ hx1 hx3 p1 p3) (by decide)
 have n23:B2≠B3:=fun e=>by subst e;exact absurd (hs.inj _ _ _ _ _ _ _ _ _ _ _ hx2 hx3 p2 p3) (by decide)
 have g0:=hown _ _ _ _ _ _ (by omega) hx0 p0
 have g1:=hown _ _ _ _ _ _ (by omega) hx1 p1
 have g2:=hown _ _ _ _ _ _ (by omega) hx2 p2
 have g3:=hown _ _ _ _ _ _ (by omega) hx3 p3
 refine⟨[B0,B1,B2,B3],?_,⟨B0,[B1,B2,B3],C0,el0,fr0,rfl,g0,by simp[n01,n02,n03],h0,t0,⟨B1,[B2,B3],C1,el1,fr1,rfl,g1,by simp[n12,n13],h1,t1,⟨B2,[B3],C2,el2,fr2,rfl,g2,by simp[n23],h2,t2,⟨B3,[],C3,el3,fr3,rfl,g3,by simp,h3,t3,rfl⟩⟩⟩⟩,ho⟩
 unfold wrapV
 rw[if_neg (by decide),if_neg (by decide)]
 rfl
theorem k_r {c:Cx g none [] 0 w0}:kM g 1 0 4=evM g 1 []:=Ze7 fun i hi=>by
 have h:=(Yef c.ck i hi).2.2
 unfold evB Zl5
 by_cases e:(Ev.at g.E i).kd=1
 ·rcases h e with h | h<;>simp[e,h]
 ·have e2:((Ev.at g.E i).kd==1)=false:=beq_eq_false_iff_ne.2 e
  rw[e2];rfl
theorem k_w {c:Cx g none [] 0 w0}:kM g 2 0 4=evM g 2 []:=Ze7 fun i hi=>by
 have h:=(Yef c.ck i hi).2.1
 unfold evB Zl5
 by_cases e:(Ev.at g.E i).kd=2
 ·rcases h e with h | h<;>simp[e,h]
 ·have e2:((Ev.at g.E i).kd==2)=false:=beq_eq_false_iff_ne.2 e
  rw[e2];rfl
theorem k_read {c:Cx g none [] 0 w0}:orM (kM g 1 0 4) (kM g 2 0 4)=orM (evM g 1 []) (evM g 2 []):=by
 rw[k_r (c:=c),k_w (c:=c)]
theorem mn_loc {c:Cx g none [] 0 w0}:mnM g.E (Zg1 g.E)=Zbm g.E (Zg1 g.E):=by
 funext i j
 unfold mnM Zbm
 cases h:Zg1 g.E i j with
 | false=>rfl
 | true=>
  cases e:((Ev.at g.E i).th==(Ev.at g.E j).th) with
  | false=>simp
  | true=>
   have hp:0<(Ev.at g.E i).th:=by
    unfold Zg1 at h
    rw[Bool.and_eq_true] at h
    have h1:=h.1
    unfold poM at h1
    rw[Bool.and_eq_true] at h1
    have h2:=h1.2
    unfold poB at h2
    have h3:=Zym c.ck i
    have e3:(Ev.at g.E i).th=(Ev.at g.E j).th:=by simpa using e
    rw[<- e3] at h2
    rcases Classical.em ((Ev.at g.E i).th=0) with q | q
    ·rw[q] at h2;simp at h2
    ·omega
   simp[hp]
theorem out_eq (A:Nat->Nat->Bool):Zcn g.E A=Zyc g A:=by
 funext i j
 unfold Zcn Zyc Zfe Zbm
 cases A i j<;>cases ((Ev.at g.E i).th==(Ev.at g.E j).th)<;>rfl
theorem start_mx (c:Cx g none [] 0 w0):mx g [] MM z23=Zac g 0/\mx g [] MM z24=Zac g 1/\mx g [] MM z25=Zac g 2/\mx g [] MM z27=Zac g 3:=by
 have h1:=k_read (c:=c)
 have h2:=mn_loc (c:=c)
 refine⟨?_,rfl,?_,?_⟩
 ·show orM (orM (ofM g.n g.Data) (Zky (mnM g.E (Zg1 g.E)) (Zax (Zcn g.E (Zax (Zff (rfM g)) (coM g))) (Zcn g.E (rfM g))))) (Zbm g.E (rfM g))=_
  rw[h2,out_eq,out_eq];rfl
 ·show orM (Zax (ofM g.n g.CtrlI) (orM (kM g 1 0 4) (kM g 2 0 4))) (Zky (mnM g.E (Zg1 g.E)) (Zax (Zcn g.E (coM g)) (Zcn g.E (rfM g))))=_
  rw[h1,h2,out_eq,out_eq];rfl
 ·show orM (orM (ofM g.n g.Data) (mnM g.E (Zg1 g.E))) (Zax (ofM g.n g.Ctrl) (orM (kM g 1 0 4) (kM g 2 0 4)))=_
  rw[h1,h2];rfl
noncomputable def stS:Nat->Stt | 0=>stA | 1=>stB | _=>stC
def flS:Nat->Nat | 0=>105 | _=>109
def nS:Nat->Nat | 0=>107 | _=>111
noncomputable def Yr2 (g:Gr):Nat->Bd
 | 0=>code ysE (clI Zyw (PP.xb g 0 0) (PP.xb g 0 1) (PP.xb g 0 2) (PP.xb g 0 3)) 105 ql
 | k+1=>code ysE (clI Zyv (PP.xb g (k+1) 0) (PP.xb g (k+1) 1) (PP.xb g (k+1) 2) (PP.xb g (k+1) 3)) 109 ql
theorem rparts_l (c:Cx g none [] 0 w0) (ws:World) (hb:Below w0.heap.size w0 ws):Calls Tryz.prog 177 #[g.v] ws fun e w'=>∃ Bs,e=.returned (wrapV 33554435 Bs)/\Objs (rho g none [] 0 w0 MM) (.cons gR .nil) ws.heap.size w' ks 100 Bs/\Go.Rn.Old ws w':=by
 refine Zlv (ws:=ws) Tryz.func177 e_bd fun Q a0 hQ hd ht=>?_
 have pk:∀ (x:Code) {rc:RC},Zbf x=[]->Zb9 Tryz.prog NT 177 x 0=rc->Zpg none Tryz.prog (rho g none [] 0 w0 MM) 100 100 NT (code ysE cl 100 rc) (Wp none Tryz.prog x):=fun x _ h1 h2=>Zfv Zcu (Zbk txtP.fsL_ok) Za8 (Zbr (tl_ok c)) hnt (Nat.le_refl _) x h1 h2
 have H0:Here Tryz.prog (rho g none [] 0 w0 MM) NT 100 ws.heap.size ws (lay (.cons gR .nil) te 0) he 100 _ a0 ws:=Here.start (fn:=Tryz.f177) hnt globs (c:=.cons gR .nil) (q:=1) (vs:=[g.v]) rfl (fun m=>denC_cons.2 ⟨_,_,rfl,Zg4 m,denC_nil.2 rfl⟩) hb hd ht
 rw[e0]
 refine H0.seq (pk _ n0 k0) (Zsw i0) (Nat.le_refl _) fun a1 w1 m1 H1=>?_
 rw[e1]
 refine H1.seq (pk _ n1 k1) (Zc1 i0 i1) (Nat.le_of_ble_eq_true j0) fun a2 w2 m2 H2=>?_
 rw[e2]
 refine H2.seq (pk _ n2 k2) (Zc1 i1 i2) (Nat.le_of_ble_eq_true j1) fun a3 w3 m3 H3=>?_
 rw[e3]
 refine H3.seq (pk _ n3 k3) (Zc1 i2 i3) (Nat.le_of_ble_eq_true j2) fun a4 w4 m4 H4=>?_
 rw[e4]
 refine H4.seq (pk _ n4 k4) (Zc1 i3 i4) (Nat.le_of_ble_eq_true j3) fun a5 w5 m5 H5=>?_
 rw[e5]
 refine H5.seq (pk _ n5 k5) (Zc1 i4 i5) (Nat.le_of_ble_eq_true j4) fun a6 w6 m6 H6=>?_
 rw[e6]
 refine H6.seq (pk _ n6 k6) (Zc1 i5 i6) (Nat.le_of_ble_eq_true j5) fun a7 w7 m7 H7=>?_
 rw[e7]
 refine H7.seq (pk _ n7 k7) (Zc1 i6 i7) (Nat.le_of_ble_eq_true j6) fun a8 w8 m8 H8=>?_
 rw[e8]
 obtain⟨t0,t1,t2,t3⟩:=start_mx (MM:=MM) c
 have HL:Here Tryz.prog (rho g none [] 0 w0 (Zaq 0 (Zac g))) NT 105 ws.heap.size ws stA.ft stA.ht 107 _ a8 w8:=H8.as (s:=stA) (fl2:=105) (n2:=107) globs (Nat.le_of_ble_eq_true j7) rfl Yrt okA (fun e he=>by
  simp only[stA,List.mem_cons,List.not_mem_nil,or_false] at he
  rcases he with rfl | rfl | rfl | rfl
  ·exact Zan t0
  ·exact Zan t1
  ·exact Zan t2
  ·exact Zan t3) Yxi (by omega)
 have hiA:∀ e∈tlI Zyw (PP.xb g 0 0) (PP.xb g 0 1) (PP.xb g 0 2) (PP.xb g 0 3),Tells Tryz.prog (rho g none [] 0 w0 (Zaq 0 (Zac g))) e:=tlI_ok c fun e he=>by
  obtain⟨u0,u1,u2,u3⟩:=Yik (g:=g) (Zaq 0 (Zac g))
  obtain⟨r0,r1,r2,r3⟩:=Yxm (g:=g) (Zaq 0 (Zac g))
  simp only[Zyw,List.mem_cons,List.not_mem_nil,or_false] at he
  rcases he with rfl | rfl | rfl | rfl
  ·exact⟨_,_,_,rfl,by rw[u0,r0];exact PP.xb_iff⟩
  ·exact⟨_,_,_,rfl,by rw[u1,r1];exact PP.xb_iff⟩
  ·exact⟨_,_,_,rfl,by rw[u2,r2];exact PP.xb_iff⟩
  ·exact⟨_,_,_,rfl,by rw[u3,r3];exact PP.xb_iff⟩
 have hiB:∀ k,∀ e∈tlI Zyv (PP.xb g k 0) (PP.xb g k 1) (PP.xb g k 2) (PP.xb g k 3),Tells Tryz.prog (rho g none [] 0 w0 (Zaq k (Zac g))) e:=fun k=>tlI_ok c fun e he=>by
  obtain⟨u0,u1,u2,u3⟩:=Yij (g:=g) (Zaq k (Zac g)) (Zpu k)
  obtain⟨r0,r1,r2,r3⟩:=Yxl (g:=g) (Zaq k (Zac g))
  simp only[Zyv,List.mem_cons,List.not_mem_nil,or_false] at he
  rcases he with rfl | rfl | rfl | rfl
  ·exact⟨_,_,_,rfl,by rw[u0,r0];exact PP.xb_iff⟩
  ·exact⟨_,_,_,rfl,by rw[u1,r1];exact PP.xb_iff⟩
  ·exact⟨_,_,_,rfl,by rw[u2,r2];exact PP.xb_iff⟩
  ·exact⟨_,_,_,rfl,by rw[u3,r3];exact PP.xb_iff⟩
 have hw:∀ k,Wf4 g.n (Zaq k (Zac g)):=Zpr Zmv
 have lo:(rho g none [] 0 w0 MM).base<=ws.heap.size:=hb.size
 have down:∀ k j,j<4->PP.xb g k j=false->Zeo g.n (Zaq (k+1) (Zac g))<Zeo g.n (Zaq k (Zac g)):=fun k j hj h=>Zv8 (Zpq (hw k)) hj (fun q=>by rw[PP.xb_iff.2 q] at h;cases h)
 have stay:∀ k,PP.xb g k 0=true->PP.xb g k 1=true->PP.xb g k 2=true->PP.xb g k 3=true->Zk7 (Zac g)=Zbt (Zaq k (Zac g)):=fun k h0 h1 h2 h3=>by
  have hst:Zbt (Zaq k (Zac g))=Zaq k (Zac g):=Yil (Zot Zir k) fun j hj=>by
   match j,hj with
   | 0,_=>exact PP.xb_iff.1 h0
   | 1,_=>exact PP.xb_iff.1 h1
   | 2,_=>exact PP.xb_iff.1 h2
   | 3,_=>exact PP.xb_iff.1 h3
  rw[Zva hst,hst]
 have fin:∀ {k:Nat} {fl n:Nat} {t:FT} {h:HT} {n':Nat} {m:Mp} {a:Act} {w:World},Here Tryz.prog (rho g none [] 0 w0 (Zaq k (Zac g))) NT fl ws.heap.size ws t h n m a w->∀ (st:Stt),st.ft=stEA.ft->st.ht=stEA.ht->n<=1000000->st.fine=true->st.okB t h=true->(∀ e∈st.tl,∀ C el fr,(rho g none [] 0 w0 (Zaq k (Zac g))).th e.2.2.2 (.cells C el fr)->(rho g none [] 0 w0 MM).th e.2.1 (.cells C el fr))->(st.old.all fun e=>decide (100<=e.1->fl<=e.2)&&decide (e.1<105))=true->Q .ret a w:=by
  intro k fl n t h n' m a w H st e1 e2 hn hf hok hth hown
  have HE:Here Tryz.prog (rho g none [] 0 w0 MM) NT 100 ws.heap.size ws stEA.ft stEA.ht 105 (fun b=>m (st.σ b)) a w:=by
   rw[<- e1,<- e2]
   exact H.as (s:=st) (fl2:=100) (n2:=105) globs hn rfl hf hok hth hown (by omega)
  refine hQ .ret a w (.inr rfl) ?_
  refine HE.left krs Yri lo fun u w2 hu hs ho hown=>?_
  exact objs4 hu hs ho hown
 refine wpIn_block (Zom (ι:=Nat) (R:=fun k=>rho g none [] 0 w0 (Zaq k (Zac g))) (S:=stS) (flS:=flS) (nS:=nS) (μ:=fun k=>Zeo g.n (Zaq k (Zac g))) (A:=Yr2 g) globs (fun _ _=>rfl)
  (fun k=>?_) (fun k=>?_) (fun k=>⟨?_⟩) (i0:=0) HL)
 ·cases k with
  | zero=>exact Zfv Zcu (Zbk txtP.fsL_ok) Za8 (Zbr hiA) hnt (by decide) lp n8 k8
  | succ k=>exact Zfv Zcu (Zbk txtP.fsL_ok) Za8 (Zbr (hiB (k+1))) hnt (by show 100<=109;omega) lp n8 k8
 ·cases k with
  | zero=>exact⟨by decide,by decide⟩
  | succ k=>exact⟨by show 109<=111;omega,by show 100<=111;omega⟩
 cases k with
 | zero=>
  obtain⟨u0,u1,u2,u3⟩:=Yik (g:=g) (Zaq 0 (Zac g))
  have on:∀ x0 x1 x2 x3,bodyOk Zjx stB x0 x1 x2 x3=true->Zeo g.n (Zaq (0+1) (Zac g))<Zeo g.n (Zaq 0 (Zac g))->∃ t' h' n',Zdb (Zjx x0 x1 x2 x3) .normal t' h' n'/\n'<=1000000 /\
    ∃ j,Zeo g.n (Zaq j (Zac g))<Zeo g.n (Zaq 0 (Zac g))/\(stS j).fine=true/\(stS j).okB t' h'=true/\(∀ x∈(stS j).tl,∀ C el fr,(rho g none [] 0 w0 (Zaq 0 (Zac g))).th x.2.2.2 (.cells C el fr)->(rho g none [] 0 w0 (Zaq j (Zac g))).th x.2.1 (.cells C el fr))/\((stS j).old.all fun x=>decide (flS j<=x.1->flS 0<=x.2)&&decide (x.1<nS j))=true:=by
   intro x0 x1 x2 x3 hok hlt
   unfold bodyOk at hok
   obtain⟨g1,hok⟩:=Zad hok (by simp)
   obtain⟨g2,g3⟩:=Zad hok (by simp)
   refine⟨_,_,_,Ziv g1,Nat.le_of_ble_eq_true g2,1,hlt,fineB,g3,fun e he=>?_,ownB⟩
   have he:e∈stB.tl:=he
   simp only[stB,List.mem_cons,List.not_mem_nil,or_false] at he
   rcases he with rfl | rfl | rfl | rfl | rfl | rfl | rfl | rfl
   ·exact Zan rfl
   ·exact Zan rfl
   ·exact Zan rfl
   ·exact Zan rfl
   ·exact Zan (by rw[u0];rfl)
   ·exact Zan (by rw[u1];rfl)
   ·exact Zan (by rw[u2];rfl)
   ·exact Zan (by rw[u3];rfl)
  show ∃ e t' h' n',Zdb (Zjx (PP.xb g 0 0) (PP.xb g 0 1) (PP.xb g 0 2) (PP.xb g 0 3)) e t' h' n'/\_
  cases h0:PP.xb g 0 0
  ·obtain⟨t',h',n',z1,z2,z3⟩:=on false (PP.xb g 0 1) (PP.xb g 0 2) (PP.xb g 0 3) (Xbh _ _ _) (down 0 0 (by omega) h0)
   exact⟨.normal,t',h',n',z1,z2,.inl ⟨rfl,z3⟩⟩
  cases h1:PP.xb g 0 1
  ·obtain⟨t',h',n',z1,z2,z3⟩:=on true false (PP.xb g 0 2) (PP.xb g 0 3) (Xbg _ _) (down 0 1 (by omega) h1)
   exact⟨.normal,t',h',n',z1,z2,.inl ⟨rfl,z3⟩⟩
  cases h2:PP.xb g 0 2
  ·obtain⟨t',h',n',z1,z2,z3⟩:=on true true false (PP.xb g 0 3) (Xbf _) (down 0 2 (by omega) h2)
   exact⟨.normal,t',h',n',z1,z2,.inl ⟨rfl,z3⟩⟩
  cases h3:PP.xb g 0 3
  ·obtain⟨t',h',n',z1,z2,z3⟩:=on true true true false Xbe (down 0 3 (by omega) h3)
   exact⟨.normal,t',h',n',z1,z2,.inl ⟨rfl,z3⟩⟩
  have hend:=stay 0 h0 h1 h2 h3
  refine⟨.ret,_,_,_,Zlw Yry,Nat.le_of_ble_eq_true Yj5,.inr ⟨by simp,fun a9 w9 m9 H9=>?_⟩⟩
  refine fin (n':=0) H9 stEA rfl rfl (Nat.le_of_ble_eq_true Yj5) Ylf Yrx (fun e he=>?_) Yp7
  simp only[stEA,List.mem_cons,List.not_mem_nil,or_false] at he
  have hend:Zk7 (Zac g)=Zbt (Zac g):=hend
  rcases he with rfl | rfl | rfl | rfl
  ·exact Zan (by rw[u0,<- hend];rfl)
  ·exact Zan (by rw[u1,<- hend];rfl)
  ·exact Zan (by rw[u2,<- hend];rfl)
  ·exact Zan (by rw[u3,<- hend];rfl)
 | succ k=>
  obtain⟨u0,u1,u2,u3⟩:=Yij (g:=g) (Zaq (k+1) (Zac g)) (Zpu (k+1))
  have on:∀ x0 x1 x2 x3,bodyOk Zjw stC x0 x1 x2 x3=true->Zeo g.n (Zaq (k+1+1) (Zac g))<Zeo g.n (Zaq (k+1) (Zac g))->∃ t' h' n',Zdb (Zjw x0 x1 x2 x3) .normal t' h' n'/\n'<=1000000 /\
    ∃ j,Zeo g.n (Zaq j (Zac g))<Zeo g.n (Zaq (k+1) (Zac g))/\(stS j).fine=true/\(stS j).okB t' h'=true/\(∀ x∈(stS j).tl,∀ C el fr,(rho g none [] 0 w0 (Zaq (k+1) (Zac g))).th x.2.2.2 (.cells C el fr)->(rho g none [] 0 w0 (Zaq j (Zac g))).th x.2.1 (.cells C el fr))/\((stS j).old.all fun x=>decide (flS j<=x.1->flS (k+1)<=x.2)&&decide (x.1<nS j))=true:=by
   intro x0 x1 x2 x3 hok hlt
   unfold bodyOk at hok
   obtain⟨g1,hok⟩:=Zad hok (by simp)
   obtain⟨g2,g3⟩:=Zad hok (by simp)
   refine⟨_,_,_,Ziv g1,Nat.le_of_ble_eq_true g2,k+1+1,hlt,Yrs,g3,fun e he=>?_,Yxh⟩
   have he:e∈stC.tl:=he
   simp only[stC,List.mem_cons,List.not_mem_nil,or_false] at he
   rcases he with rfl | rfl | rfl | rfl | rfl | rfl | rfl | rfl
   ·exact Zan rfl
   ·exact Zan rfl
   ·exact Zan rfl
   ·exact Zan rfl
   ·exact Zan (by rw[u0];rfl)
   ·exact Zan (by rw[u1];rfl)
   ·exact Zan (by rw[u2];rfl)
   ·exact Zan (by rw[u3];rfl)
  have f1:(stS (k+1)).ft=stB.ft:=by cases k<;>rfl
  have f2:(stS (k+1)).ht=stB.ht:=by cases k<;>rfl
  rw[f1,f2]
  show ∃ e t' h' n',Zdb (Zjw (PP.xb g (k+1) 0) (PP.xb g (k+1) 1) (PP.xb g (k+1) 2) (PP.xb g (k+1) 3)) e t' h' n'/\_
  cases h0:PP.xb g (k+1) 0
  ·obtain⟨t',h',n',z1,z2,z3⟩:=on false (PP.xb g (k+1) 1) (PP.xb g (k+1) 2) (PP.xb g (k+1) 3) (Xbd _ _ _) (down (k+1) 0 (by omega) h0)
   exact⟨.normal,t',h',n',z1,z2,.inl ⟨rfl,z3⟩⟩
  cases h1:PP.xb g (k+1) 1
  ·obtain⟨t',h',n',z1,z2,z3⟩:=on true false (PP.xb g (k+1) 2) (PP.xb g (k+1) 3) (Xbc _ _) (down (k+1) 1 (by omega) h1)
   exact⟨.normal,t',h',n',z1,z2,.inl ⟨rfl,z3⟩⟩
  cases h2:PP.xb g (k+1) 2
  ·obtain⟨t',h',n',z1,z2,z3⟩:=on true true false (PP.xb g (k+1) 3) (Xbb _) (down (k+1) 2 (by omega) h2)
   exact⟨.normal,t',h',n',z1,z2,.inl ⟨rfl,z3⟩⟩
  cases h3:PP.xb g (k+1) 3
  ·obtain⟨t',h',n',z1,z2,z3⟩:=on true true true false Xba (down (k+1) 3 (by omega) h3)
   exact⟨.normal,t',h',n',z1,z2,.inl ⟨rfl,z3⟩⟩
  have hend:=stay (k+1) h0 h1 h2 h3
  refine⟨.ret,_,_,_,Zlw Yrw,Nat.le_of_ble_eq_true Yj4,.inr ⟨by simp,fun a9 w9 m9 H9=>?_⟩⟩
  refine fin (n':=0) H9 stEB rfl rfl (Nat.le_of_ble_eq_true Yj4) Yle Yrv (fun e he=>?_) Yp6
  simp only[stEB,List.mem_cons,List.not_mem_nil,or_false] at he
  rcases he with rfl | rfl | rfl | rfl
  ·exact Zan (by rw[u0,<- hend];rfl)
  ·exact Zan (by rw[u1,<- hend];rfl)
  ·exact Zan (by rw[u2,<- hend];rfl)
  ·exact Zan (by rw[u3,<- hend];rfl)
end PR
end ToldP
end Go.Proofs.YthcnhbclagegeaaGreatDoor
