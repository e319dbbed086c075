/-
  ppo.Parts makes the four that keep order: its loop by the evaluator, round by round. Conditions: a graph that may be, in memory, the table of bits in its variable.
-/
import Derived.Test.YthcnhbclagegeaaGreatDoorMv
import Derived.Test.YthcnhbclagegeaaGreatDoorMw
set_option maxRecDepth 20000
set_option maxHeartbeats 4000000
namespace Go.Proofs.YthcnhbclagegeaaGreatDoor
open Go.RowKit RelA
namespace ToldP
namespace PP
open Go.Rn
variable {g:Gr} {w0:World} {MM:M4}
noncomputable def p0:RV:=.fn 1 (.cons gR .nil)
noncomputable def p1:RV:=.fn 2 (.cons gR .nil)
noncomputable def p2:RV:=.fn 5 (.cons gR .nil)
noncomputable def p3:RV:=.fn 31 (.cons nR (.cons (opS 5) .nil))
noncomputable def p4:RV:=.fn 32 (.cons nR (.cons (opS 6) .nil))
noncomputable def p5:RV:=.fn 33 (.cons nR (.cons (opS 7) .nil))
noncomputable def p6:RV:=.fn 40 (.cons gR (.cons (.i .i64 1) (.cons .ns .nil)))
noncomputable def p7:RV:=.fn 41 (.cons gR (.cons (.i .i64 2) (.cons .ns .nil)))
noncomputable def p8:RV:=jB 10 1 p6 p7
noncomputable def p9:RV:=jU 14 1 p0
noncomputable def p10:RV:=jB 13 1 p9 p1
noncomputable def p11:RV:=jG 20 1 p2
noncomputable def p12:RV:=jG 20 1 p10
noncomputable def p13:RV:=jB 12 1 p10 p12
noncomputable def p14:RV:=jG 20 1 p0
noncomputable def p15:RV:=jB 12 1 p0 p14
noncomputable def p16:RV:=jB 13 1 p13 p15
noncomputable def p17:RV:=jB 11 1 p11 p16
noncomputable def p18:RV:=jG 20 1 p1
noncomputable def p19:RV:=jB 12 1 p1 p18
noncomputable def p20:RV:=jB 13 1 p19 p15
noncomputable def p21:RV:=jB 11 1 p11 p20
noncomputable def p22:RV:=jB 10 1 p3 p17
noncomputable def p23:RV:=jB 10 1 p22 p14
noncomputable def p24:RV:=.fn 34 (.cons nR (.cons .ns .nil))
noncomputable def p25:RV:=jB 13 1 p5 p8
noncomputable def p26:RV:=jB 10 1 p25 p21
noncomputable def p27:RV:=jB 13 1 p4 p8
noncomputable def p28:RV:=jB 10 1 p3 p11
noncomputable def p29:RV:=jB 10 1 p28 p27
noncomputable def m0:RV:=.fn 90 .nil
noncomputable def m1:RV:=.fn 91 .nil
noncomputable def m2:RV:=.fn 92 .nil
noncomputable def m3:RV:=.fn 93 .nil
noncomputable def p34:RV:=jB 13 1 m1 m2
noncomputable def p35:RV:=jB 13 1 m0 m0
noncomputable def p36:RV:=jB 10 1 m0 m2
noncomputable def p37:RV:=jB 10 1 p36 p34
noncomputable def p38:RV:=jB 10 1 p37 p35
noncomputable def p39:RV:=jB 13 1 m1 m3
noncomputable def p40:RV:=jB 13 1 m0 m1
noncomputable def p41:RV:=jB 10 1 m1 m0
noncomputable def p42:RV:=jB 10 1 p41 m3
noncomputable def p43:RV:=jB 10 1 p42 p39
noncomputable def p44:RV:=jB 10 1 p43 p40
noncomputable def p45:RV:=jB 13 1 m2 m0
noncomputable def p46:RV:=jB 13 1 m3 m2
noncomputable def p47:RV:=jB 10 1 m2 p45
noncomputable def p48:RV:=jB 10 1 p47 p46
noncomputable def p49:RV:=jB 13 1 m2 m1
noncomputable def p50:RV:=jB 13 1 m3 m3
noncomputable def p51:RV:=jB 10 1 m3 m2
noncomputable def p52:RV:=jB 10 1 p51 p49
noncomputable def p53:RV:=jB 10 1 p52 p50
noncomputable def bd:Code:=(Tryz.f168.body).getD .skip
noncomputable def c0:Code:=cdL bd
noncomputable def b1:Code:=cdI (cdR bd)
noncomputable def b2:Code:=cdR b1
noncomputable def b3:Code:=cdR b2
noncomputable def b4:Code:=cdR b3
noncomputable def b5:Code:=cdR b4
noncomputable def b6:Code:=cdR b5
noncomputable def b7:Code:=cdR b6
noncomputable def b8:Code:=cdR b7
noncomputable def lp:Code:=cdI (cdI (cdL b7))
theorem e_bd:Tryz.f168.body=some bd:=by kernel_rfl
theorem e0:bd=.seq c0 (.scope b1):=by kernel_rfl
theorem e1:b1=.seq (cdL b1) b2:=by kernel_rfl
theorem e2:b2=.seq (cdL b2) b3:=by kernel_rfl
theorem e3:b3=.seq (cdL b3) b4:=by kernel_rfl
theorem e4:b4=.seq (cdL b4) b5:=by kernel_rfl
theorem e5:b5=.seq (cdL b5) b6:=by kernel_rfl
theorem e6:b6=.seq (cdL b6) b7:=by kernel_rfl
theorem e7:b7=.seq (.block 0 (.loop lp)) b8:=by kernel_rfl
theorem e8:b8=.seq (cdL b8) .ret:=by kernel_rfl
def q1:RC:=rkR (rkF txtP.rc168)
def q2:RC:=rkR q1
def q3:RC:=rkR q2
def q4:RC:=rkR q3
def q5:RC:=rkR q4
def q6:RC:=rkR q5
def q7:RC:=rkR q6
def q8:RC:=rkR q7
def ql:RC:=rkI (rkI (rkL q7))
noncomputable abbrev NT:Nat:=Tryz.f168.ntmps
theorem hnt:NT<1000000:=of_decide_eq_true (by kernel_rfl)
theorem globs:Tryz.prog.globals.size<=100:=of_decide_eq_true (by kernel_rfl)
theorem k0:Zb9 Tryz.prog NT 168 c0 0=rkL (rkF txtP.rc168):=by kernel_rfl
theorem n0:Zbf c0=[]:=by kernel_rfl
theorem k1:Zb9 Tryz.prog NT 168 (cdL b1) 0=rkL q1:=by kernel_rfl
theorem n1:Zbf (cdL b1)=[]:=by kernel_rfl
theorem k2:Zb9 Tryz.prog NT 168 (cdL b2) 0=rkL q2:=by kernel_rfl
theorem n2:Zbf (cdL b2)=[]:=by kernel_rfl
theorem k3:Zb9 Tryz.prog NT 168 (cdL b3) 0=rkL q3:=by kernel_rfl
theorem n3:Zbf (cdL b3)=[]:=by kernel_rfl
theorem k4:Zb9 Tryz.prog NT 168 (cdL b4) 0=rkL q4:=by kernel_rfl
theorem n4:Zbf (cdL b4)=[]:=by kernel_rfl
theorem k5:Zb9 Tryz.prog NT 168 (cdL b5) 0=rkL q5:=by kernel_rfl
theorem n5:Zbf (cdL b5)=[]:=by kernel_rfl
theorem k6:Zb9 Tryz.prog NT 168 (cdL b6) 0=rkL q6:=by kernel_rfl
theorem n6:Zbf (cdL b6)=[]:=by kernel_rfl
theorem k7:Zb9 Tryz.prog NT 168 lp 0=ql:=by kernel_rfl
theorem n7:Zbf lp=[]:=by kernel_rfl
theorem k8:Zb9 Tryz.prog NT 168 (cdL b8) 0=rkL q8:=by kernel_rfl
theorem n8:Zbf (cdL b8)=[]:=by kernel_rfl
noncomputable def tl:List (Nat×Nat×RV):=[(152,0,chW Zyt),(122,0,chW Yng),(106,0,chW Zyx),(123,0,chW Zq6),(80,0,chW Zq2),(182,0,chW Zq7),(81,0,chW Ynf),(65,0,chW Zjl),(179,0,chW Yne),(180,0,chW Yni),(62,0,chW Zmn),(91,0,chW Zyu)]
theorem tl_ok {M:M4} (c:Cx g none [] 0 w0):∀ e∈tl,Tells Tryz.prog (rho g none [] 0 w0 M) e:=by
 unfold tl
 refine List.forall_mem_cons.2 ⟨Yig c,?_⟩
 refine List.forall_mem_cons.2 ⟨Ysa c,?_⟩
 refine List.forall_mem_cons.2 ⟨Yii c,?_⟩
 refine List.forall_mem_cons.2 ⟨Ycw c,?_⟩
 refine List.forall_mem_cons.2 ⟨Ycs c,?_⟩
 refine List.forall_mem_cons.2 ⟨Ycx c,?_⟩
 refine List.forall_mem_cons.2 ⟨Yr9 c,?_⟩
 refine List.forall_mem_cons.2 ⟨Zri c,?_⟩
 refine List.forall_mem_cons.2 ⟨Yr8 c,?_⟩
 refine List.forall_mem_cons.2 ⟨Ysb c,?_⟩
 refine List.forall_mem_cons.2 ⟨Zvs c,?_⟩
 refine List.forall_mem_cons.2 ⟨Yih c,?_⟩
 exact fun _ h=>by cases h
noncomputable def Yuu (x0 x1 x2 x3:Bool):List (RV×RV):=[(.cons (.tup (.cons (.mp 1) p38)) (.cons (.tup (.cons (.mp 1) m0)) .nil),.b x0),(.cons (.tup (.cons (.mp 1) p44)) (.cons (.tup (.cons (.mp 1) m1)) .nil),.b x1),(.cons (.tup (.cons (.mp 1) p48)) (.cons (.tup (.cons (.mp 1) m2)) .nil),.b x2),(.cons (.tup (.cons (.mp 1) p53)) (.cons (.tup (.cons (.mp 1) m3)) .nil),.b x3)]
noncomputable def tlI (x0 x1 x2 x3:Bool):List (Nat×Nat×RV):=(189,1,chV (Yuu x0 x1 x2 x3))::tl
theorem Zvu (M:M4):mx g [] M p38=Zbt M 0/\mx g [] M p44=Zbt M 1/\mx g [] M p48=Zbt M 2/\mx g [] M p53=Zbt M 3:=⟨rfl,rfl,rfl,rfl⟩
theorem Yut (M:M4):mx g [] M m0=M 0/\mx g [] M m1=M 1/\mx g [] M m2=M 2/\mx g [] M m3=M 3:=⟨rfl,rfl,rfl,rfl⟩
theorem start_mx:mx g [] MM p23=Zac g 0/\mx g [] MM p24=Zac g 1/\mx g [] MM p26=Zac g 2/\mx g [] MM p29=Zac g 3:=⟨rfl,rfl,rfl,rfl⟩
theorem tlI_ok {M:M4} {x0 x1 x2 x3:Bool} (c:Cx g none [] 0 w0) (h0:x0=true↔Wi (Zbt M 0) (M 0)) (h1:x1=true↔Wi (Zbt M 1) (M 1)) (h2:x2=true↔Wi (Zbt M 2) (M 2)) (h3:x3=true↔Wi (Zbt M 3) (M 3)):∀ e∈tlI x0 x1 x2 x3,Tells Tryz.prog (rho g none [] 0 w0 M) e:=by
 unfold tlI
 refine List.forall_mem_cons.2 ⟨Zau (by kernel_rfl) (fun x hx=>?_),tl_ok c⟩
 have hs:∀ (b c n:Nat) (M S:Nat->Nat->Bool) (w:World),Rk 1 w b n M->Rk 1 w c n S->n<=40->∀ (x:Bool),(x=true↔Wi M S)->Calls Tryz.prog 189 #[.pointer (some ⟨b,0,none⟩),.pointer (some ⟨c,0,none⟩)] w fun e w'=>e=.returned (.bool x)/\Below w.heap.size w w':=fun b c n M S w h1 h2 hn x hx=>Xa9 b c n M S w h1 h2 hn x hx
 obtain⟨s0,s1,s2,s3⟩:=Zvu (g:=g) M
 obtain⟨r0,r1,r2,r3⟩:=Yut (g:=g) M
 unfold Yuu at hx
 simp only[List.mem_cons,List.not_mem_nil,or_false] at hx
 rcases hx with rfl | rfl | rfl | rfl
 ·exact Zhq c 1 hs (by rw[s0,r0];exact h0)
 ·exact Zhq c 1 hs (by rw[s1,r1];exact h1)
 ·exact Zhq c 1 hs (by rw[s2,r2];exact h2)
 ·exact Zhq c 1 hs (by rw[s3,r3];exact h3)
noncomputable def cl:Cl':=Zcc ysE (inL txtP.fsL) (fun _ _=>none) (kcL tl) 60
noncomputable def clI (x0 x1 x2 x3:Bool):Cl':=Zcc ysE (inL txtP.fsL) (fun _ _=>none) (kcL (tlI x0 x1 x2 x3)) 60
noncomputable def s0:BR:=code ysE cl 100 (rkL (rkF txtP.rc168)) (lay (.cons gR .nil) te 0) he 100
noncomputable def s1:BR:=andThen s0 (code ysE cl 100 (rkL q1))
noncomputable def s2:BR:=andThen s1 (code ysE cl 100 (rkL q2))
noncomputable def s3:BR:=andThen s2 (code ysE cl 100 (rkL q3))
noncomputable def s4:BR:=andThen s3 (code ysE cl 100 (rkL q4))
noncomputable def s5:BR:=andThen s4 (code ysE cl 100 (rkL q5))
noncomputable def s6:BR:=andThen s5 (code ysE cl 100 (rkL q6))
set_option maxRecDepth 100000
theorem i0:Zkt s0=true:=by kernel_rfl
theorem i1:Zkt s1=true:=by kernel_rfl
theorem i2:Zkt s2=true:=by kernel_rfl
theorem i3:Zkt s3=true:=by kernel_rfl
theorem i4:Zkt s4=true:=by kernel_rfl
theorem i5:Zkt s5=true:=by kernel_rfl
theorem i6:Zkt s6=true:=by kernel_rfl
noncomputable def slB:List (Nat×RV):=[(8,.p 100 0),(9,.p 101 0),(10,.p 102 0),(11,.p 103 0)]
noncomputable def body (x0 x1 x2 x3:Bool):BR:=code ysE (clI x0 x1 x2 x3) 104 ql (Yd3 slB) (Ycc [(100,.cons (.mp 1) m0),(101,.cons (.mp 1) m1),(102,.cons (.mp 1) m2),(103,.cons (.mp 1) m3)]) 104
noncomputable def stP:Stt:=⟨[(8,.p 100 0),(9,.p 101 0),(10,.p 102 0),(11,.p 103 0)],[(100,(.cons (.mp 1) m0),137,(.cons (.mp 1) p23)),(101,(.cons (.mp 1) m1),139,(.cons (.mp 1) p24)),(102,(.cons (.mp 1) m2),164,(.cons (.mp 1) p26)),(103,(.cons (.mp 1) m3),173,(.cons (.mp 1) p29))],[]⟩
noncomputable def stB:Stt:=⟨[(8,.p 100 0),(9,.p 101 0),(10,.p 102 0),(11,.p 103 0)],[(100,(.cons (.mp 1) m0),109,(.cons (.mp 1) p38)),(101,(.cons (.mp 1) m1),116,(.cons (.mp 1) p44)),(102,(.cons (.mp 1) m2),121,(.cons (.mp 1) p48)),(103,(.cons (.mp 1) m3),127,(.cons (.mp 1) p53))],[]⟩
noncomputable def stE:Stt:=⟨[(2,.p 100 0),(3,.p 101 0),(4,.p 102 0),(5,.p 103 0)],[(100,(.cons (.mp 1) (.fn 100 (.cons gR .nil))),109,(.cons (.mp 1) p38)),(101,(.cons (.mp 1) (.fn 101 (.cons gR .nil))),116,(.cons (.mp 1) p44)),(102,(.cons (.mp 1) (.fn 102 (.cons gR .nil))),121,(.cons (.mp 1) p48)),(103,(.cons (.mp 1) (.fn 103 (.cons gR .nil))),127,(.cons (.mp 1) p53))],[]⟩
noncomputable def post:BR:=code ysE (clI true true true true) 104 (rkL q8) (tB (body true true true true)) (hB (body true true true true)) (nB (body true true true true))
noncomputable def bodyOk (x0 x1 x2 x3:Bool):Bool:=bf (Zkt (body x0 x1 x2 x3)) (bf (Nat.ble (nB (body x0 x1 x2 x3)) 1000000) (stB.okB (tB (body x0 x1 x2 x3)) (hB (body x0 x1 x2 x3))) false) false
theorem go0 (x1 x2 x3:Bool):bodyOk false x1 x2 x3=true:=by kernel_rfl
theorem go1 (x2 x3:Bool):bodyOk true false x2 x3=true:=by kernel_rfl
theorem go2 (x3:Bool):bodyOk true true false x3=true:=by kernel_rfl
theorem go3:bodyOk true true true false=true:=by kernel_rfl
theorem Xbo:Yo0 0 (body true true true true)=true:=by kernel_rfl
theorem Xbn:Nat.ble (nB (body true true true true)) 1000000=true:=by kernel_rfl
theorem Xbm:Zkt post=true:=by kernel_rfl
theorem Xbl:stE.okB (tB post) (hB post)=true:=by kernel_rfl
theorem Xbk:Nat.ble 104 (nB (body true true true true))=true:=by kernel_rfl
theorem Xbj:Nat.ble (nB post) 1000000=true:=by kernel_rfl
theorem Yrq:stP.fine=true:=by kernel_rfl
theorem fineB:stB.fine=true:=by kernel_rfl
theorem Yrr:stE.fine=true:=by kernel_rfl
theorem okP:stP.okB (tB s6) (hB s6)=true:=by kernel_rfl
theorem Yxf:(stP.old.all fun e=>decide (104<=e.1->100<=e.2)&&decide (e.1<104))=true:=by kernel_rfl
theorem ownB:(stB.old.all fun e=>decide (104<=e.1->104<=e.2)&&decide (e.1<104))=true:=by kernel_rfl
theorem Yxg:(stE.old.all fun e=>decide (100<=e.1->104<=e.2)&&decide (e.1<104))=true:=by kernel_rfl
theorem j0:Nat.ble 100 (nB s0)=true:=by kernel_rfl
theorem j1:Nat.ble 100 (nB s1)=true:=by kernel_rfl
theorem j2:Nat.ble 100 (nB s2)=true:=by kernel_rfl
theorem j3:Nat.ble 100 (nB s3)=true:=by kernel_rfl
theorem j4:Nat.ble 100 (nB s4)=true:=by kernel_rfl
theorem j5:Nat.ble 100 (nB s5)=true:=by kernel_rfl
theorem j6:Nat.ble (nB s6) 1000000=true:=by kernel_rfl
def Yhz:RF->List RS | .f _ _ rs=>rs | _=>[]
theorem krs:Tryz.f168.results.toList.mapM (Zen Tryz.prog NT)=some (Yhz txtP.rc168):=by kernel_rfl
theorem Yxn:ret stE.ft stE.ht 104 (Yhz txtP.rc168)=.ok (.tup (.cons (.p 100 0) (.cons (.p 101 0) (.cons (.p 102 0) (.cons (.p 103 0) .nil))))) stE.ht 104:=by kernel_rfl
def ks:RV:=.cons (.mp 1) (.cons (.mp 1) (.cons (.mp 1) (.cons (.mp 1) .nil)))
theorem Zt6 {n:Nat} {E:List Ev} {M:Nat->Nat->Bool} (h:WFM n M):WFM n (Zbm E M):=fun i j a=>by
 unfold Zbm at a;rw[Bool.and_eq_true] at a;exact h i j a.1
theorem hx0:hg stE.ht 100=.bk (cst ce (.tup (.cons (.mp 1) (.fn 100 (.cons gR .nil)))) 0) Za2:=by kernel_rfl
theorem hx1:hg stE.ht 101=.bk (cst ce (.tup (.cons (.mp 1) (.fn 101 (.cons gR .nil)))) 0) Za2:=by kernel_rfl
theorem hx2:hg stE.ht 102=.bk (cst ce (.tup (.cons (.mp 1) (.fn 102 (.cons gR .nil)))) 0) Za2:=by kernel_rfl
theorem hx3:hg stE.ht 103=.bk (cst ce (.tup (.cons (.mp 1) (.fn 103 (.cons gR .nil)))) 0) Za2:=by kernel_rfl
theorem objs4 {m:Mp} {u:Value} {w2 ws:World} (hu:den (rho g none [] 0 w0 MM) m (.tup (.cons (.p 100 0) (.cons (.p 101 0) (.cons (.p 102 0) (.cons (.p 103 0) .nil))))) u) (hs:Sim Tryz.prog (rho g none [] 0 w0 MM) m 100 stE.ht w2) (ho:Go.Rn.Old ws w2)
  (hown:∀ b c z B O Z,100<=b->hg stE.ht b=.bk c z->m b=some (B,O,Z)->ws.heap.size<=B):∃ Bs,Ending.returned u=.returned (wrapV 33554434 Bs)/\Objs (rho g none [] 0 w0 MM) (.cons gR .nil) ws.heap.size w2 ks 100 Bs/\Go.Rn.Old ws w2:=by
 obtain⟨cs,hc,rfl⟩:=hu
 obtain⟨v0,y0,rfl,⟨B0,O0,Z0,p0,rfl⟩,hc1⟩:=denC_cons.1 hc
 obtain⟨v1,y1,rfl,⟨B1,O1,Z1,p1,rfl⟩,hc2⟩:=denC_cons.1 hc1
 obtain⟨v2,y2,rfl,⟨B2,O2,Z2,p2,rfl⟩,hc3⟩:=denC_cons.1 hc2
 obtain⟨v3,y3,rfl,⟨B3,O3,Z3,p3,rfl⟩,hc4⟩:=denC_cons.1 hc3
 obtain rfl:=denC_nil.1 hc4
 obtain⟨_,_,C0,el0,fr0,q0,h0,t0⟩:=hs.told hx0 (Zl9 _)
 obtain⟨_,_,C1,el1,fr1,q1,h1,t1⟩:=hs.told hx1 (Zl9 _)
 obtain⟨_,_,C2,el2,fr2,q2,h2,t2⟩:=hs.told hx2 (Zl9 _)
 obtain⟨_,_,C3,el3,fr3,q3,h3,t3⟩:=hs.told hx3 (Zl9 _)
 rw[p0] at q0;rw[p1] at q1;rw[p2] at q2;rw[p3] at q3
 cases q0;cases q1;cases q2;cases q3
 have n01:B0≠B1:=fun e=>by subst e;exact absurd (hs.inj _ _ _ _ _ _ _ _ _ _ _ hx0 hx1 p0 p1) (by decide)
 have n02:B0≠B2:=fun e=>by subst e;exact absurd (hs.inj _ _ _ _ _ _ _ _ _ _ _ hx0 hx2 p0 p2) (by decide)
 have n03:B0≠B3:=fun e=>by subst e;exact absurd (hs.inj _ _ _ _ _ _ _ _ _ _ _ hx0 hx3 p0 p3) (by decide)
 have n12:B1≠B2:=fun e=>by subst e;exact absurd (hs.inj _ _ _ _ _ _ _ _ _ _ _ hx1 hx2 p1 p2) (by decide)
 have n13:B1≠B3:=fun e=>by subst e;exact absurd (hs.inj _ _ _ _ _ _ _ _ _ _ _ hx1 hx3 p1 p3) (by decide)
 have n23:B2≠B3:=fun e=>by subst e;exact absurd (hs.inj _ _ _ _ _ _ _ _ _ _ _ hx2 hx3 p2 p3) (by decide)
 have g0:=hown _ _ _ _ _ _ (by omega) hx0 p0
 have g1:=hown _ _ _ _ _ _ (by omega) hx1 p1
 have g2:=hown _ _ _ _ _ _ (by omega) hx2 p2
 have g3:=hown _ _ _ _ _ _ (by omega) hx3 p3
 refine⟨[B0,B1,B2,B3],?_,⟨B0,[B1,B2,B3],C0,el0,fr0,rfl,g0,by simp[n01,n02,n03],h0,t0,⟨B1,[B2,B3],C1,el1,fr1,rfl,g1,by simp[n12,n13],h1,t1,⟨B2,[B3],C2,el2,fr2,rfl,g2,by simp[n23],h2,t2,⟨B3,[],C3,el3,fr3,rfl,g3,by simp,h3,t3,rfl⟩⟩⟩⟩,ho⟩
 unfold wrapV
 rw[if_neg (by decide),if_pos rfl]
 rfl
theorem Zan {M M':M4} {k:Nat} {t t':RV} (e:mx g [] M t=mx g [] M' t'):∀ C el fr,(rho g none [] 0 w0 M).th (.cons (.mp k) t) (.cells C el fr)->(rho g none [] 0 w0 M').th (.cons (.mp k) t') (.cells C el fr):=fun C el fr h w b hh=>by
 have h1:=(show ∀ (w:World) (b:Nat),w.heap[b]?=some (.cells C el fr)->Rk k w b g.n (mx g [] M t) from h) w b hh
 rw[e] at h1
 exact h1
open Classical in
noncomputable def xb (g:Gr) (k j:Nat):Bool:=decide (Wi (Zbt (Zaq k (Zac g)) j) (Zaq k (Zac g) j))
theorem xb_iff {k j:Nat}:xb g k j=true↔Wi (Zbt (Zaq k (Zac g)) j) (Zaq k (Zac g) j):=by unfold xb;simp
theorem Zmv:Wf4 g.n (Zac g)
 | 0=>Zdy (Zdy (Zj0 _ _) (Zk8 (Zt6 (Zjy _)))) (Zt6 (Zj0 _ _))
 | 1=>fun _ _ a=>by cases a
 | 2=>Zdy (Ze9 (Zj0 _ _) (Zdy (Zb5 _ _) (Zb5 _ _))) (Zk8 (Zt6 (Zjy _)))
 | 3=>Zdy (Zdy (Zj0 _ _) (Zt6 (Zjy _))) (Ze9 (Zj0 _ _) (Zdy (Zb5 _ _) (Zb5 _ _)))
 | _+4=>fun _ _ a=>by cases a
theorem Zir:Yia (Zac g):=fun c hc=>by
 match c,hc with
 | c+4,_=>rfl
theorem parts_l (c:Cx g none [] 0 w0) (ws:World) (hb:Below w0.heap.size w0 ws):Calls Tryz.prog 168 #[g.v] ws fun e w'=>∃ Bs,e=.returned (wrapV 33554434 Bs)/\Objs (rho g none [] 0 w0 MM) (.cons gR .nil) ws.heap.size w' ks 100 Bs/\Go.Rn.Old ws w':=by
 refine Zlv (ws:=ws) Tryz.func168 e_bd fun Q a0 hQ hd ht=>?_
 have pk:∀ (x:Code) {rc:RC},Zbf x=[]->Zb9 Tryz.prog NT 168 x 0=rc->Zpg none Tryz.prog (rho g none [] 0 w0 MM) 100 100 NT (code ysE cl 100 rc) (Wp none Tryz.prog x):=fun x _ h1 h2=>Zfv Zcu (Zbk txtP.fsL_ok) Za8 (Zbr (tl_ok c)) hnt (Nat.le_refl _) x h1 h2
 have H0:Here Tryz.prog (rho g none [] 0 w0 MM) NT 100 ws.heap.size ws (lay (.cons gR .nil) te 0) he 100 _ a0 ws:=Here.start (fn:=Tryz.f168) hnt globs (c:=.cons gR .nil) (q:=1) (vs:=[g.v]) rfl (fun m=>denC_cons.2 ⟨_,_,rfl,Zg4 m,denC_nil.2 rfl⟩) hb hd ht
 rw[e0]
 refine H0.seq (pk c0 n0 k0) (Zsw i0) (Nat.le_refl _) fun a1 w1 m1 H1=>?_
 refine Zea ?_
 rw[e1]
 refine H1.seq (pk _ n1 k1) (Zc1 i0 i1) (Nat.le_of_ble_eq_true j0) fun a2 w2 m2 H2=>?_
 rw[e2]
 refine H2.seq (pk _ n2 k2) (Zc1 i1 i2) (Nat.le_of_ble_eq_true j1) fun a3 w3 m3 H3=>?_
 rw[e3]
 refine H3.seq (pk _ n3 k3) (Zc1 i2 i3) (Nat.le_of_ble_eq_true j2) fun a4 w4 m4 H4=>?_
 rw[e4]
 refine H4.seq (pk _ n4 k4) (Zc1 i3 i4) (Nat.le_of_ble_eq_true j3) fun a5 w5 m5 H5=>?_
 rw[e5]
 refine H5.seq (pk _ n5 k5) (Zc1 i4 i5) (Nat.le_of_ble_eq_true j4) fun a6 w6 m6 H6=>?_
 rw[e6]
 refine H6.seq (pk _ n6 k6) (Zc1 i5 i6) (Nat.le_of_ble_eq_true j5) fun a7 w7 m7 H7=>?_
 rw[e7]
 obtain⟨t0,t1,t2,t3⟩:=start_mx (g:=g) (MM:=MM)
 have HL:Here Tryz.prog (rho g none [] 0 w0 (Zaq 0 (Zac g))) NT 104 ws.heap.size ws stB.ft stB.ht 104 _ a7 w7:=H7.as (s:=stP) (fl2:=104) (n2:=104) globs (Nat.le_of_ble_eq_true j6) rfl Yrq okP (fun e he=>by
  simp only[stP,List.mem_cons,List.not_mem_nil,or_false] at he
  rcases he with rfl | rfl | rfl | rfl
  ·exact Zan t0
  ·exact Zan t1
  ·exact Zan t2
  ·exact Zan t3) Yxf (by omega)
 have hi:∀ k,∀ e∈tlI (xb g k 0) (xb g k 1) (xb g k 2) (xb g k 3),Tells Tryz.prog (rho g none [] 0 w0 (Zaq k (Zac g))) e:=fun k=>tlI_ok c xb_iff xb_iff xb_iff xb_iff
 have hw:∀ k,Wf4 g.n (Zaq k (Zac g)):=Zpr Zmv
 have lo:(rho g none [] 0 w0 MM).base<=ws.heap.size:=hb.size
 refine wpIn_seq (wpIn_block (Zom (ι:=Nat) (R:=fun k=>rho g none [] 0 w0 (Zaq k (Zac g))) (S:=fun _=>stB) (flS:=fun _=>104) (nS:=fun _=>104) (μ:=fun k=>Zeo g.n (Zaq k (Zac g))) (A:=fun k=>code ysE (clI (xb g k 0) (xb g k 1) (xb g k 2) (xb g k 3)) 104 ql) globs (fun _ _=>rfl)
  (fun k=>Zfv Zcu (Zbk txtP.fsL_ok) Za8 (Zbr (hi k)) hnt (by omega) lp n7 k7) (fun _=>⟨Nat.le_refl _,by omega⟩) (fun k=>⟨?_⟩) (i0:=0) HL))
 obtain⟨u0,u1,u2,u3⟩:=Zvu (g:=g) (Zaq k (Zac g))
 obtain⟨r0,r1,r2,r3⟩:=Yut (g:=g) (Zaq (k+1) (Zac g))
 have on:∀ x0 x1 x2 x3,bodyOk x0 x1 x2 x3=true->Zeo g.n (Zaq (k+1) (Zac g))<Zeo g.n (Zaq k (Zac g))->∃ t' h' n',Zdb (code ysE (clI x0 x1 x2 x3) 104 ql stB.ft stB.ht 104) .normal t' h' n'/\n'<=1000000 /\
   ∃ j,Zeo g.n (Zaq j (Zac g))<Zeo g.n (Zaq k (Zac g))/\stB.fine=true/\stB.okB t' h'=true/\(∀ x∈stB.tl,∀ C el fr,(rho g none [] 0 w0 (Zaq k (Zac g))).th x.2.2.2 (.cells C el fr)->(rho g none [] 0 w0 (Zaq j (Zac g))).th x.2.1 (.cells C el fr))/\(stB.old.all fun x=>decide (104<=x.1->104<=x.2)&&decide (x.1<104))=true:=by
  intro x0 x1 x2 x3 hok hlt
  unfold bodyOk at hok
  obtain⟨g1,hok⟩:=Zad hok (by simp)
  obtain⟨g2,g3⟩:=Zad hok (by simp)
  refine⟨_,_,_,Ziv g1,Nat.le_of_ble_eq_true g2,k+1,hlt,fineB,g3,fun e he=>?_,ownB⟩
  simp only[stB,List.mem_cons,List.not_mem_nil,or_false] at he
  rcases he with rfl | rfl | rfl | rfl
  ·exact Zan (by rw[u0,r0];rfl)
  ·exact Zan (by rw[u1,r1];rfl)
  ·exact Zan (by rw[u2,r2];rfl)
  ·exact Zan (by rw[u3,r3];rfl)
 have down:∀ j,j<4->xb g k j=false->Zeo g.n (Zaq (k+1) (Zac g))<Zeo g.n (Zaq k (Zac g)):=fun j hj h=>Zv8 (Zpq (hw k)) hj (fun q=>by rw[xb_iff.2 q] at h;cases h)
 cases h0:xb g k 0
 ·obtain⟨t',h',n',z1,z2,z3⟩:=on false (xb g k 1) (xb g k 2) (xb g k 3) (go0 _ _ _) (down 0 (by omega) h0)
  exact⟨.normal,t',h',n',z1,z2,.inl ⟨rfl,z3⟩⟩
 cases h1:xb g k 1
 ·obtain⟨t',h',n',z1,z2,z3⟩:=on true false (xb g k 2) (xb g k 3) (go1 _ _) (down 1 (by omega) h1)
  exact⟨.normal,t',h',n',z1,z2,.inl ⟨rfl,z3⟩⟩
 cases h2:xb g k 2
 ·obtain⟨t',h',n',z1,z2,z3⟩:=on true true false (xb g k 3) (go2 _) (down 2 (by omega) h2)
  exact⟨.normal,t',h',n',z1,z2,.inl ⟨rfl,z3⟩⟩
 cases h3:xb g k 3
 ·obtain⟨t',h',n',z1,z2,z3⟩:=on true true true false go3 (down 3 (by omega) h3)
  exact⟨.normal,t',h',n',z1,z2,.inl ⟨rfl,z3⟩⟩
 refine⟨.exit 0,_,_,_,Ztt Xbo,Nat.le_of_ble_eq_true Xbn,.inr ⟨by simp,fun a8 w8 m8 H8=>?_⟩⟩
 simp only[Exit.inBlock,if_true]
 have hst:Zbt (Zaq k (Zac g))=Zaq k (Zac g):=Yil (Zot Zir k) fun j hj=>by
  match j,hj with
  | 0,_=>exact xb_iff.1 h0
  | 1,_=>exact xb_iff.1 h1
  | 2,_=>exact xb_iff.1 h2
  | 3,_=>exact xb_iff.1 h3
 have hend:Zk7 (Zac g)=Zaq k (Zac g):=Zva hst
 show b8.wpIn _ _ _ _ _ _
 rw[e8]
 have hik:=hi k
 rw[h0,h1,h2,h3] at hik
 refine H8.seq (Zfv Zcu (Zbk txtP.fsL_ok) Za8 (Zbr hik) hnt (by omega) _ n8 k8) (Zsw Xbm) (Nat.le_of_ble_eq_true Xbk) fun a9 w9 m9 H9=>?_
 refine wpIn_ret ?_
 refine hQ .ret a9 w9 (.inr rfl) ?_
 have HE:Here Tryz.prog (rho g none [] 0 w0 MM) NT 100 ws.heap.size ws stE.ft stE.ht 104 _ a9 w9:=H9.as (s:=stE) (fl2:=100) (n2:=104) globs (Nat.le_of_ble_eq_true Xbj) rfl Yrr Xbl (fun e he=>by
  simp only[stE,List.mem_cons,List.not_mem_nil,or_false] at he
  rcases he with rfl | rfl | rfl | rfl
  ·exact Zan (by rw[u0,hst,<- hend];rfl)
  ·exact Zan (by rw[u1,hst,<- hend];rfl)
  ·exact Zan (by rw[u2,hst,<- hend];rfl)
  ·exact Zan (by rw[u3,hst,<- hend];rfl)) Yxg (by omega)
 refine HE.left krs Yxn lo fun u w2 hu hs ho hown=>?_
 exact objs4 hu hs ho hown
end PP
end ToldP
end Go.Proofs.YthcnhbclagegeaaGreatDoor
