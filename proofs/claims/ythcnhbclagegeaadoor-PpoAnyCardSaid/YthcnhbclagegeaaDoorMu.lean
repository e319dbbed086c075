/-
  ppo.Parts makes the four that keep order: its loop by the evaluator, round by round. Conditions: a graph that may be, in memory, the Zvm of bits in its variable.
-/
import Derived.Test.YthcnhbclagegeaaDoorMs
import Derived.Test.YthcnhbclagegeaaDoorMt
namespace Go.Proofs.YthcnhbclagegeaaDoor
open Go.RowKit RelA
namespace ToldP
namespace PP
open Go.Rn
variable {g:Gr} {w0:World} {MM:M4}
noncomputable def p0:RV:=.fn 1 (.cons gR .nil)
noncomputable def p1:RV:=.fn 2 (.cons gR .nil)
noncomputable def p2:RV:=.fn 5 (.cons gR .nil)
noncomputable def p3:RV:=.fn 31 (.cons nR (.cons (opS 5) .nil))
noncomputable def p4:RV:=.fn 32 (.cons nR (.cons (opS 6) .nil))
noncomputable def p5:RV:=.fn 33 (.cons nR (.cons (opS 7) .nil))
noncomputable def p6:RV:=.fn 40 (.cons gR (.cons (.i .i64 1) (.cons .ns .nil)))
noncomputable def p7:RV:=.fn 41 (.cons gR (.cons (.i .i64 2) (.cons .ns .nil)))
noncomputable def p8:RV:=.fn 10 (.cons (.tup (.cons (.mp 1) p6)) (.cons (.tup (.cons (.mp 1) p7)) .nil))
noncomputable def p9:RV:=.fn 14 (.cons (.tup (.cons (.mp 1) p0)) .nil)
noncomputable def p10:RV:=.fn 13 (.cons (.tup (.cons (.mp 1) p9)) (.cons (.tup (.cons (.mp 1) p1)) .nil))
noncomputable def p11:RV:=.fn 20 (.cons gR (.cons (.tup (.cons (.mp 1) p2)) .nil))
noncomputable def p12:RV:=.fn 20 (.cons gR (.cons (.tup (.cons (.mp 1) p10)) .nil))
noncomputable def p13:RV:=.fn 12 (.cons (.tup (.cons (.mp 1) p10)) (.cons (.tup (.cons (.mp 1) p12)) .nil))
noncomputable def p14:RV:=.fn 20 (.cons gR (.cons (.tup (.cons (.mp 1) p0)) .nil))
noncomputable def p15:RV:=.fn 12 (.cons (.tup (.cons (.mp 1) p0)) (.cons (.tup (.cons (.mp 1) p14)) .nil))
noncomputable def p16:RV:=.fn 13 (.cons (.tup (.cons (.mp 1) p13)) (.cons (.tup (.cons (.mp 1) p15)) .nil))
noncomputable def p17:RV:=.fn 11 (.cons (.tup (.cons (.mp 1) p11)) (.cons (.tup (.cons (.mp 1) p16)) .nil))
noncomputable def p18:RV:=.fn 20 (.cons gR (.cons (.tup (.cons (.mp 1) p1)) .nil))
noncomputable def p19:RV:=.fn 12 (.cons (.tup (.cons (.mp 1) p1)) (.cons (.tup (.cons (.mp 1) p18)) .nil))
noncomputable def p20:RV:=.fn 13 (.cons (.tup (.cons (.mp 1) p19)) (.cons (.tup (.cons (.mp 1) p15)) .nil))
noncomputable def p21:RV:=.fn 11 (.cons (.tup (.cons (.mp 1) p11)) (.cons (.tup (.cons (.mp 1) p20)) .nil))
noncomputable def p22:RV:=.fn 10 (.cons (.tup (.cons (.mp 1) p3)) (.cons (.tup (.cons (.mp 1) p17)) .nil))
noncomputable def p23:RV:=.fn 10 (.cons (.tup (.cons (.mp 1) p22)) (.cons (.tup (.cons (.mp 1) p14)) .nil))
noncomputable def p24:RV:=.fn 34 (.cons nR (.cons .ns .nil))
noncomputable def p25:RV:=.fn 13 (.cons (.tup (.cons (.mp 1) p5)) (.cons (.tup (.cons (.mp 1) p8)) .nil))
noncomputable def p26:RV:=.fn 10 (.cons (.tup (.cons (.mp 1) p25)) (.cons (.tup (.cons (.mp 1) p21)) .nil))
noncomputable def p27:RV:=.fn 13 (.cons (.tup (.cons (.mp 1) p4)) (.cons (.tup (.cons (.mp 1) p8)) .nil))
noncomputable def p28:RV:=.fn 10 (.cons (.tup (.cons (.mp 1) p3)) (.cons (.tup (.cons (.mp 1) p11)) .nil))
noncomputable def p29:RV:=.fn 10 (.cons (.tup (.cons (.mp 1) p28)) (.cons (.tup (.cons (.mp 1) p27)) .nil))
noncomputable def m0:RV:=.fn 90 .nil
noncomputable def m1:RV:=.fn 91 .nil
noncomputable def m2:RV:=.fn 92 .nil
noncomputable def m3:RV:=.fn 93 .nil
noncomputable def p34:RV:=.fn 13 (.cons (.tup (.cons (.mp 1) m1)) (.cons (.tup (.cons (.mp 1) m2)) .nil))
noncomputable def p35:RV:=.fn 13 (.cons (.tup (.cons (.mp 1) m0)) (.cons (.tup (.cons (.mp 1) m0)) .nil))
noncomputable def p36:RV:=.fn 10 (.cons (.tup (.cons (.mp 1) m0)) (.cons (.tup (.cons (.mp 1) m2)) .nil))
noncomputable def p37:RV:=.fn 10 (.cons (.tup (.cons (.mp 1) p36)) (.cons (.tup (.cons (.mp 1) p34)) .nil))
noncomputable def p38:RV:=.fn 10 (.cons (.tup (.cons (.mp 1) p37)) (.cons (.tup (.cons (.mp 1) p35)) .nil))
noncomputable def p39:RV:=.fn 13 (.cons (.tup (.cons (.mp 1) m1)) (.cons (.tup (.cons (.mp 1) m3)) .nil))
noncomputable def p40:RV:=.fn 13 (.cons (.tup (.cons (.mp 1) m0)) (.cons (.tup (.cons (.mp 1) m1)) .nil))
noncomputable def p41:RV:=.fn 10 (.cons (.tup (.cons (.mp 1) m1)) (.cons (.tup (.cons (.mp 1) m0)) .nil))
noncomputable def p42:RV:=.fn 10 (.cons (.tup (.cons (.mp 1) p41)) (.cons (.tup (.cons (.mp 1) m3)) .nil))
noncomputable def p43:RV:=.fn 10 (.cons (.tup (.cons (.mp 1) p42)) (.cons (.tup (.cons (.mp 1) p39)) .nil))
noncomputable def p44:RV:=.fn 10 (.cons (.tup (.cons (.mp 1) p43)) (.cons (.tup (.cons (.mp 1) p40)) .nil))
noncomputable def p45:RV:=.fn 13 (.cons (.tup (.cons (.mp 1) m2)) (.cons (.tup (.cons (.mp 1) m0)) .nil))
noncomputable def p46:RV:=.fn 13 (.cons (.tup (.cons (.mp 1) m3)) (.cons (.tup (.cons (.mp 1) m2)) .nil))
noncomputable def p47:RV:=.fn 10 (.cons (.tup (.cons (.mp 1) m2)) (.cons (.tup (.cons (.mp 1) p45)) .nil))
noncomputable def p48:RV:=.fn 10 (.cons (.tup (.cons (.mp 1) p47)) (.cons (.tup (.cons (.mp 1) p46)) .nil))
noncomputable def p49:RV:=.fn 13 (.cons (.tup (.cons (.mp 1) m2)) (.cons (.tup (.cons (.mp 1) m1)) .nil))
noncomputable def p50:RV:=.fn 13 (.cons (.tup (.cons (.mp 1) m3)) (.cons (.tup (.cons (.mp 1) m3)) .nil))
noncomputable def p51:RV:=.fn 10 (.cons (.tup (.cons (.mp 1) m3)) (.cons (.tup (.cons (.mp 1) m2)) .nil))
noncomputable def p52:RV:=.fn 10 (.cons (.tup (.cons (.mp 1) p51)) (.cons (.tup (.cons (.mp 1) p49)) .nil))
noncomputable def p53:RV:=.fn 10 (.cons (.tup (.cons (.mp 1) p52)) (.cons (.tup (.cons (.mp 1) p50)) .nil))
noncomputable def bd:Code:=(Tryd.f78.body).getD .skip
noncomputable def c0:Code:=cdL bd
noncomputable def b1:Code:=cdI (cdR bd)
noncomputable def b2:Code:=cdR b1
noncomputable def b3:Code:=cdR b2
noncomputable def b4:Code:=cdR b3
noncomputable def b5:Code:=cdR b4
noncomputable def b6:Code:=cdR b5
noncomputable def b7:Code:=cdR b6
noncomputable def b8:Code:=cdR b7
noncomputable def lp:Code:=cdI (cdI (cdL b7))
theorem e_bd:Tryd.f78.body=some bd:=by kernel_rfl
theorem e0:bd=.seq c0 (.scope b1):=by kernel_rfl
theorem e1:b1=.seq (cdL b1) b2:=by kernel_rfl
theorem e2:b2=.seq (cdL b2) b3:=by kernel_rfl
theorem e3:b3=.seq (cdL b3) b4:=by kernel_rfl
theorem e4:b4=.seq (cdL b4) b5:=by kernel_rfl
theorem e5:b5=.seq (cdL b5) b6:=by kernel_rfl
theorem e6:b6=.seq (cdL b6) b7:=by kernel_rfl
theorem e7:b7=.seq (.block 0 (.loop lp)) b8:=by kernel_rfl
theorem e8:b8=.seq (cdL b8) .ret:=by kernel_rfl
def q1:RC:=rkR (rkF txtP.rc78)
def q2:RC:=rkR q1
def q3:RC:=rkR q2
def q4:RC:=rkR q3
def q5:RC:=rkR q4
def q6:RC:=rkR q5
def q7:RC:=rkR q6
def q8:RC:=rkR q7
def ql:RC:=rkI (rkI (rkL q7))
noncomputable abbrev NT:Nat:=Tryd.f78.ntmps
theorem hnt:NT < 1000000:=of_decide_eq_true (by kernel_rfl)
theorem globs:Tryd.prog.globals.size<=100:=of_decide_eq_true (by kernel_rfl)
theorem k0:Zb7 Tryd.prog NT 78 c0 0=rkL (rkF txtP.rc78):=by kernel_rfl
theorem n0:Zbb c0=[]:=by kernel_rfl
theorem k1:Zb7 Tryd.prog NT 78 (cdL b1) 0=rkL q1:=by kernel_rfl
theorem n1:Zbb (cdL b1)=[]:=by kernel_rfl
theorem k2:Zb7 Tryd.prog NT 78 (cdL b2) 0=rkL q2:=by kernel_rfl
theorem n2:Zbb (cdL b2)=[]:=by kernel_rfl
theorem k3:Zb7 Tryd.prog NT 78 (cdL b3) 0=rkL q3:=by kernel_rfl
theorem n3:Zbb (cdL b3)=[]:=by kernel_rfl
theorem k4:Zb7 Tryd.prog NT 78 (cdL b4) 0=rkL q4:=by kernel_rfl
theorem n4:Zbb (cdL b4)=[]:=by kernel_rfl
theorem k5:Zb7 Tryd.prog NT 78 (cdL b5) 0=rkL q5:=by kernel_rfl
theorem n5:Zbb (cdL b5)=[]:=by kernel_rfl
theorem k6:Zb7 Tryd.prog NT 78 (cdL b6) 0=rkL q6:=by kernel_rfl
theorem n6:Zbb (cdL b6)=[]:=by kernel_rfl
theorem k7:Zb7 Tryd.prog NT 78 lp 0=ql:=by kernel_rfl
theorem n7:Zbb lp=[]:=by kernel_rfl
theorem k8:Zb7 Tryd.prog NT 78 (cdL b8) 0=rkL q8:=by kernel_rfl
theorem n8:Zbb (cdL b8)=[]:=by kernel_rfl
noncomputable def tl:List (Nat × Nat × RV):=[(20,0,chW Ya3),(37,0,chW Yxc),(123,0,chW Ya7),(61,0,chW Zr1),(38,0,chW Zrx),(107,0,chW Zr2),(9,0,chW Yxb),(111,0,chW Zi7),(104,0,chW Yxa),(105,0,chW Yxd),(21,0,chW Zms),(23,0,chW Ya4)]
set_option maxRecDepth 20000 in
theorem tl_ok {M:M4} (c:Cx g none [] 0 w0):∀ e ∈ tl,Tells Tryd.prog (rho g none [] 0 w0 M) e:=by
 unfold tl
 refine List.forall_mem_cons.2 ⟨Yra c,?_⟩
 refine List.forall_mem_cons.2 ⟨Xbj c,?_⟩
 refine List.forall_mem_cons.2 ⟨Yrc c,?_⟩
 refine List.forall_mem_cons.2 ⟨Yf8 c,?_⟩
 refine List.forall_mem_cons.2 ⟨Yf4 c,?_⟩
 refine List.forall_mem_cons.2 ⟨Yf9 c,?_⟩
 refine List.forall_mem_cons.2 ⟨Xbi c,?_⟩
 refine List.forall_mem_cons.2 ⟨Zsd c,?_⟩
 refine List.forall_mem_cons.2 ⟨Xbh c,?_⟩
 refine List.forall_mem_cons.2 ⟨Xbk c,?_⟩
 refine List.forall_mem_cons.2 ⟨Zxq c,?_⟩
 refine List.forall_mem_cons.2 ⟨Yrb c,?_⟩
 exact fun _ h=>by cases h
noncomputable def Xfn (x0 x1 x2 x3:Bool):List (RV × RV):=[(.cons (.tup (.cons (.mp 1) p38)) (.cons (.tup (.cons (.mp 1) m0)) .nil),.b x0),(.cons (.tup (.cons (.mp 1) p44)) (.cons (.tup (.cons (.mp 1) m1)) .nil),.b x1),(.cons (.tup (.cons (.mp 1) p48)) (.cons (.tup (.cons (.mp 1) m2)) .nil),.b x2),(.cons (.tup (.cons (.mp 1) p53)) (.cons (.tup (.cons (.mp 1) m3)) .nil),.b x3)]
noncomputable def tlI (x0 x1 x2 x3:Bool):List (Nat × Nat × RV):=(14,1,chV (Xfn x0 x1 x2 x3))::tl
theorem Zxt (M:M4):mx g [] M p38=Zbr M 0/\mx g [] M p44=Zbr M 1/\mx g [] M p48=Zbr M 2/\mx g [] M p53=Zbr M 3:=⟨rfl,rfl,rfl,rfl⟩
theorem Xfm (M:M4):mx g [] M m0=M 0/\mx g [] M m1=M 1/\mx g [] M m2=M 2/\mx g [] M m3=M 3:=⟨rfl,rfl,rfl,rfl⟩
theorem start_mx:mx g [] MM p23=Zad g 0/\mx g [] MM p24=Zad g 1/\mx g [] MM p26=Zad g 2/\mx g [] MM p29=Zad g 3:=⟨rfl,rfl,rfl,rfl⟩
set_option maxRecDepth 20000 in
theorem tlI_ok {M:M4} {x0 x1 x2 x3:Bool} (c:Cx g none [] 0 w0) (h0:x0=true ↔ Wi (Zbr M 0) (M 0)) (h1:x1=true ↔ Wi (Zbr M 1) (M 1)) (h2:x2=true ↔ Wi (Zbr M 2) (M 2)) (h3:x3=true ↔ Wi (Zbr M 3) (M 3)):∀ e ∈ tlI x0 x1 x2 x3,Tells Tryd.prog (rho g none [] 0 w0 M) e:=by
 unfold tlI
 refine List.forall_mem_cons.2 ⟨Ze6 (by kernel_rfl) (fun x hx=>?_),tl_ok c⟩
 have hs:∀ (b c n:Nat) (M S:Nat->Nat->Bool) (w:World),Rk 1 w b n M->Rk 1 w c n S->n<=40->∀ (x:Bool),(x=true ↔ Wi M S)->Calls Tryd.prog 14 #[.pointer (some ⟨b,0,none⟩),.pointer (some ⟨c,0,none⟩)] w fun e w'=>e=.returned (.bool x)/\Below w.heap.size w w':=fun b c n M S w h1 h2 hn x hx=>Xjw b c n M S w h1 h2 hn x hx
 obtain ⟨s0,s1,s2,s3⟩:=Zxt (g:=g) M
 obtain ⟨r0,r1,r2,r3⟩:=Xfm (g:=g) M
 unfold Xfn at hx
 simp only [List.mem_cons,List.not_mem_nil,or_false] at hx
 rcases hx with rfl | rfl | rfl | rfl
 ·exact Zhm c 1 hs (by rw [s0,r0]; exact h0)
 ·exact Zhm c 1 hs (by rw [s1,r1]; exact h1)
 ·exact Zhm c 1 hs (by rw [s2,r2]; exact h2)
 ·exact Zhm c 1 hs (by rw [s3,r3]; exact h3)
noncomputable def cl:Cl':=Zh4 ysE (inL txtP.fsL) (fun _ _=>none) (kcL tl) 60
noncomputable def clI (x0 x1 x2 x3:Bool):Cl':=Zh4 ysE (inL txtP.fsL) (fun _ _=>none) (kcL (tlI x0 x1 x2 x3)) 60
noncomputable def s0:BR:=code ysE cl 100 (rkL (rkF txtP.rc78)) (lay (.cons gR .nil) te 0) he 100
noncomputable def s1:BR:=andThen s0 (code ysE cl 100 (rkL q1))
noncomputable def s2:BR:=andThen s1 (code ysE cl 100 (rkL q2))
noncomputable def s3:BR:=andThen s2 (code ysE cl 100 (rkL q3))
noncomputable def s4:BR:=andThen s3 (code ysE cl 100 (rkL q4))
noncomputable def s5:BR:=andThen s4 (code ysE cl 100 (rkL q5))
noncomputable def s6:BR:=andThen s5 (code ysE cl 100 (rkL q6))
set_option maxRecDepth 100000
theorem i0:Zkw s0=true:=by kernel_rfl
theorem i1:Zkw s1=true:=by kernel_rfl
theorem i2:Zkw s2=true:=by kernel_rfl
theorem i3:Zkw s3=true:=by kernel_rfl
theorem i4:Zkw s4=true:=by kernel_rfl
theorem i5:Zkw s5=true:=by kernel_rfl
theorem i6:Zkw s6=true:=by kernel_rfl
noncomputable def slB:List (Nat × RV):=[(8,.p 100 0),(9,.p 101 0),(10,.p 102 0),(11,.p 103 0)]
noncomputable def body (x0 x1 x2 x3:Bool):BR:=code ysE (clI x0 x1 x2 x3) 104 ql (Yhw slB) (Yfm [(100,.cons (.mp 1) m0),(101,.cons (.mp 1) m1),(102,.cons (.mp 1) m2),(103,.cons (.mp 1) m3)]) 104
noncomputable def stP:Stt:=⟨[(8,.p 100 0),(9,.p 101 0),(10,.p 102 0),(11,.p 103 0)],[(100,(.cons (.mp 1) m0),137,(.cons (.mp 1) p23)),(101,(.cons (.mp 1) m1),139,(.cons (.mp 1) p24)),(102,(.cons (.mp 1) m2),164,(.cons (.mp 1) p26)),(103,(.cons (.mp 1) m3),173,(.cons (.mp 1) p29))],[]⟩
noncomputable def stB:Stt:=⟨[(8,.p 100 0),(9,.p 101 0),(10,.p 102 0),(11,.p 103 0)],[(100,(.cons (.mp 1) m0),109,(.cons (.mp 1) p38)),(101,(.cons (.mp 1) m1),116,(.cons (.mp 1) p44)),(102,(.cons (.mp 1) m2),121,(.cons (.mp 1) p48)),(103,(.cons (.mp 1) m3),127,(.cons (.mp 1) p53))],[]⟩
noncomputable def stE:Stt:=⟨[(2,.p 100 0),(3,.p 101 0),(4,.p 102 0),(5,.p 103 0)],[(100,(.cons (.mp 1) (.fn 100 (.cons gR .nil))),109,(.cons (.mp 1) p38)),(101,(.cons (.mp 1) (.fn 101 (.cons gR .nil))),116,(.cons (.mp 1) p44)),(102,(.cons (.mp 1) (.fn 102 (.cons gR .nil))),121,(.cons (.mp 1) p48)),(103,(.cons (.mp 1) (.fn 103 (.cons gR .nil))),127,(.cons (.mp 1) p53))],[]⟩
noncomputable def post:BR:=code ysE (clI true true true true) 104 (rkL q8) (tB (body true true true true)) (hB (body true true true true)) (nB (body true true true true))
noncomputable def bodyOk (x0 x1 x2 x3:Bool):Bool:=bf (Zkw (body x0 x1 x2 x3)) (bf (Nat.ble (nB (body x0 x1 x2 x3)) 1000000) (stB.okB (tB (body x0 x1 x2 x3)) (hB (body x0 x1 x2 x3))) false) false
theorem go0 (x1 x2 x3:Bool):bodyOk false x1 x2 x3=true:=by kernel_rfl
theorem go1 (x2 x3:Bool):bodyOk true false x2 x3=true:=by kernel_rfl
theorem go2 (x3:Bool):bodyOk true true false x3=true:=by kernel_rfl
theorem go3:bodyOk true true true false=true:=by kernel_rfl
theorem Xkd:Yx8 0 (body true true true true)=true:=by kernel_rfl
theorem Xkc:Nat.ble (nB (body true true true true)) 1000000=true:=by kernel_rfl
theorem Xkb:Zkw post=true:=by kernel_rfl
theorem Xka:stE.okB (tB post) (hB post)=true:=by kernel_rfl
theorem Xj9:Nat.ble 104 (nB (body true true true true))=true:=by kernel_rfl
theorem Xj8:Nat.ble (nB post) 1000000=true:=by kernel_rfl
theorem Xas:stP.fine=true:=by kernel_rfl
theorem fineB:stB.fine=true:=by kernel_rfl
theorem Xat:stE.fine=true:=by kernel_rfl
theorem okP:stP.okB (tB s6) (hB s6)=true:=by kernel_rfl
theorem Xji:(stP.old.all fun e=>decide (104<=e.1->100<=e.2) && decide (e.1 < 104))=true:=by kernel_rfl
theorem ownB:(stB.old.all fun e=>decide (104<=e.1->104<=e.2) && decide (e.1 < 104))=true:=by kernel_rfl
theorem Xjj:(stE.old.all fun e=>decide (100<=e.1->104<=e.2) && decide (e.1 < 104))=true:=by kernel_rfl
theorem j0:Nat.ble 100 (nB s0)=true:=by kernel_rfl
theorem j1:Nat.ble 100 (nB s1)=true:=by kernel_rfl
theorem j2:Nat.ble 100 (nB s2)=true:=by kernel_rfl
theorem j3:Nat.ble 100 (nB s3)=true:=by kernel_rfl
theorem j4:Nat.ble 100 (nB s4)=true:=by kernel_rfl
theorem j5:Nat.ble 100 (nB s5)=true:=by kernel_rfl
theorem j6:Nat.ble (nB s6) 1000000=true:=by kernel_rfl
def Yp1:RF->List RS | .f _ _ rs=>rs | _=>[]
theorem krs:Tryd.f78.results.toList.mapM (Zej Tryd.prog NT)=some (Yp1 txtP.rc78):=by kernel_rfl
theorem Xjt:ret stE.ft stE.ht 104 (Yp1 txtP.rc78)=.ok (.tup (.cons (.p 100 0) (.cons (.p 101 0) (.cons (.p 102 0) (.cons (.p 103 0) .nil))))) stE.ht 104:=by kernel_rfl
def ks:RV:=.cons (.mp 1) (.cons (.mp 1) (.cons (.mp 1) (.cons (.mp 1) .nil)))
theorem Zu0 {n:Nat} {E:List Ev} {M:Nat->Nat->Bool} (h:WFM n M):WFM n (Zcl E M):=fun i j a=>by
 unfold Zcl at a; rw [Bool.and_eq_true] at a; exact h i j a.1
theorem hx0:hg stE.ht 100=.bk (cst ce (.tup (.cons (.mp 1) (.fn 100 (.cons gR .nil)))) 0) Zas:=by kernel_rfl
theorem hx1:hg stE.ht 101=.bk (cst ce (.tup (.cons (.mp 1) (.fn 101 (.cons gR .nil)))) 0) Zas:=by kernel_rfl
theorem hx2:hg stE.ht 102=.bk (cst ce (.tup (.cons (.mp 1) (.fn 102 (.cons gR .nil)))) 0) Zas:=by kernel_rfl
theorem hx3:hg stE.ht 103=.bk (cst ce (.tup (.cons (.mp 1) (.fn 103 (.cons gR .nil)))) 0) Zas:=by kernel_rfl
theorem objs4 {m:Mp} {u:Value} {w2 ws:World} (hu:den (rho g none [] 0 w0 MM) m (.tup (.cons (.p 100 0) (.cons (.p 101 0) (.cons (.p 102 0) (.cons (.p 103 0) .nil))))) u) (hs:Sim Tryd.prog (rho g none [] 0 w0 MM) m 100 stE.ht w2) (ho:Go.Rn.Old ws w2)
  (hown:∀ b c z B O Z,100<=b->hg stE.ht b=.bk c z->m b=some (B,O,Z)->ws.heap.size<=B):∃ Bs,Ending.returned u=.returned (wrapV 33554434 Bs)/\Objs (rho g none [] 0 w0 MM) (.cons gR .nil) ws.heap.size w2 ks 100 Bs/\Go.Rn.Old ws w2:=by
 obtain ⟨cs,hc,rfl⟩:=hu
 obtain ⟨v0,y0,rfl,⟨B0,O0,Z0,p0,rfl⟩,hc1⟩:=denC_cons.1 hc
 obtain ⟨v1,y1,rfl,⟨B1,O1,Z1,p1,rfl⟩,hc2⟩:=denC_cons.1 hc1
 obtain ⟨v2,y2,rfl,⟨B2,O2,Z2,p2,rfl⟩,hc3⟩:=denC_cons.1 hc2
 obtain ⟨v3,y3,rfl,⟨B3,O3,Z3,p3,rfl⟩,hc4⟩:=denC_cons.1 hc3
 obtain rfl:=denC_nil.1 hc4
 obtain ⟨_,_,C0,el0,fr0,q0,h0,t0⟩:=hs.told hx0 (Zmb _)
 obtain ⟨_,_,C1,el1,fr1,q1,h1,t1⟩:=hs.told hx1 (Zmb _)
 obtain ⟨_,_,C2,el2,fr2,q2,h2,t2⟩:=hs.told hx2 (Zmb _)
 obtain ⟨_,_,C3,el3,fr3,q3,h3,t3⟩:=hs.told hx3 (Zmb _)
 rw [p0] at q0; rw [p1] at q1; rw [p2] at q2; rw [p3] at q3
 cases q0; cases q1; cases q2; cases q3
 have n01:B0 ≠ B1:=fun e=>by subst e; exact absurd (hs.inj _ _ _ _ _ _ _ _ _ _ _ hx0 hx1 p0 p1) (by decide)
 have n02:B0 ≠ B2:=fun e=>by subst e; exact absurd (hs.inj _ _ _ _ _ _ _ _ _ _ _ hx0 hx2 p0 p2) (by decide)
 have n03:B0 ≠ B3:=fun e=>by subst e; exact absurd (hs.inj _ _ _ _ _ _ _ _ _ _ _ hx0 hx3 p0 p3) (by decide)
 have n12:B1 ≠ B2:=fun e=>by subst e; exact absurd (hs.inj _ _ _ _ _ _ _ _ _ _ _ hx1 hx2 p1 p2) (by decide)
 have n13:B1 ≠ B3:=fun e=>by subst e; exact absurd (hs.inj _ _ _ _ _ _ _ _ _ _ _ hx1 hx3 p1 p3) (by decide)
 have n23:B2 ≠ B3:=fun e=>by subst e; exact absurd (hs.inj _ _ _ _ _ _ _ _ _ _ _ hx2 hx3 p2 p3) (by decide)
 have g0:=hown _ _ _ _ _ _ (by omega) hx0 p0
 have g1:=hown _ _ _ _ _ _ (by omega) hx1 p1
 have g2:=hown _ _ _ _ _ _ (by omega) hx2 p2
 have g3:=hown _ _ _ _ _ _ (by omega) hx3 p3
 refine ⟨[B0,B1,B2,B3],?_,⟨B0,[B1,B2,B3],C0,el0,fr0,rfl,g0,by simp [n01,n02,n03],h0,t0,⟨B1,[B2,B3],C1,el1,fr1,rfl,g1,by simp [n12,n13],h1,t1,⟨B2,[B3],C2,el2,fr2,rfl,g2,by simp [n23],h2,t2,⟨B3,[],C3,el3,fr3,rfl,g3,by simp,h3,t3,rfl⟩⟩⟩⟩,ho⟩
 unfold wrapV
 rw [if_neg (by decide),if_pos rfl]
 rfl
theorem Zao {M M':M4} {k:Nat} {t t':RV} (e:mx g [] M t=mx g [] M' t'):∀ C el fr,(rho g none [] 0 w0 M).th (.cons (.mp k) t) (.cells C el fr)->(rho g none [] 0 w0 M').th (.cons (.mp k) t') (.cells C el fr):=fun C el fr h w b hh=>by
 have h1:=(show ∀ (w:World) (b:Nat),w.heap[b]?=some (.cells C el fr)->Rk k w b g.n (mx g [] M t) from h) w b hh
 rw [e] at h1
 exact h1
open Classical in
noncomputable def xb (g:Gr) (k j:Nat):Bool:=decide (Wi (Zbr (Zau k (Zad g)) j) (Zau k (Zad g) j))
theorem xb_iff {k j:Nat}:xb g k j=true ↔ Wi (Zbr (Zau k (Zad g)) j) (Zau k (Zad g) j):=by unfold xb; simp
theorem Znk:Wf4 g.n (Zad g)
 | 0=>Zdq (Zdq (Zjs _ _) (Zlb (Zu0 (Zro _)))) (Zu0 (Zjs _ _))
 | 1=>fun _ _ a=>by cases a
 | 2=>Zdq (Ze8 (Zjs _ _) (Zdq (Zj3 _ _) (Zj3 _ _))) (Zlb (Zu0 (Zro _)))
 | 3=>Zdq (Zdq (Zjs _ _) (Zu0 (Zro _))) (Ze8 (Zjs _ _) (Zdq (Zj3 _ _) (Zj3 _ _)))
 | _ + 4=>fun _ _ a=>by cases a
theorem Zid:Yqz (Zad g):=fun c hc=>by
 match c,hc with
 | c + 4,_=>rfl
set_option maxHeartbeats 4000000 in
theorem parts_l (c:Cx g none [] 0 w0) (ws:World) (hb:Below w0.heap.size w0 ws):Calls Tryd.prog 78 #[g.v] ws fun e w'=>∃ Bs,e=.returned (wrapV 33554434 Bs)/\Objs (rho g none [] 0 w0 MM) (.cons gR .nil) ws.heap.size w' ks 100 Bs/\Go.Rn.Old ws w':=by
 refine Zl3 (ws:=ws) Tryd.func78 e_bd fun Q a0 hQ hd ht=>?_
 have pk:∀ (x:Code) {rc:RC},Zbb x=[]->Zb7 Tryd.prog NT 78 x 0=rc->Zp9 none Tryd.prog (rho g none [] 0 w0 MM) 100 100 NT (code ysE cl 100 rc) (Wp none Tryd.prog x):=fun x _ h1 h2=>Zfy Zjo (Zge txtP.fsL_ok) Zey (Zha (tl_ok c)) hnt (Nat.le_refl _) x h1 h2
 have H0:Here Tryd.prog (rho g none [] 0 w0 MM) NT 100 ws.heap.size ws (lay (.cons gR .nil) te 0) he 100 _ a0 ws:=Here.start (fn:=Tryd.f78) hnt globs (c:=.cons gR .nil) (q:=1) (vs:=[g.v]) rfl (fun m=>denC_cons.2 ⟨_,_,rfl,Yib m,denC_nil.2 rfl⟩) hb hd ht
 rw [e0]
 refine H0.seq (pk c0 n0 k0) (Ztt i0) (Nat.le_refl _) fun a1 w1 m1 H1=>?_
 refine Zd3 ?_
 rw [e1]
 refine H1.seq (pk _ n1 k1) (Zcv i0 i1) (Nat.le_of_ble_eq_true j0) fun a2 w2 m2 H2=>?_
 rw [e2]
 refine H2.seq (pk _ n2 k2) (Zcv i1 i2) (Nat.le_of_ble_eq_true j1) fun a3 w3 m3 H3=>?_
 rw [e3]
 refine H3.seq (pk _ n3 k3) (Zcv i2 i3) (Nat.le_of_ble_eq_true j2) fun a4 w4 m4 H4=>?_
 rw [e4]
 refine H4.seq (pk _ n4 k4) (Zcv i3 i4) (Nat.le_of_ble_eq_true j3) fun a5 w5 m5 H5=>?_
 rw [e5]
 refine H5.seq (pk _ n5 k5) (Zcv i4 i5) (Nat.le_of_ble_eq_true j4) fun a6 w6 m6 H6=>?_
 rw [e6]
 refine H6.seq (pk _ n6 k6) (Zcv i5 i6) (Nat.le_of_ble_eq_true j5) fun a7 w7 m7 H7=>?_
 rw [e7]
 obtain ⟨t0,t1,t2,t3⟩:=start_mx (g:=g) (MM:=MM)
 have HL:Here Tryd.prog (rho g none [] 0 w0 (Zau 0 (Zad g))) NT 104 ws.heap.size ws stB.ft stB.ht 104 _ a7 w7:=H7.as (s:=stP) (fl2:=104) (n2:=104) globs (Nat.le_of_ble_eq_true j6) rfl Xas okP (fun e he=>by
  simp only [stP,List.mem_cons,List.not_mem_nil,or_false] at he
  rcases he with rfl | rfl | rfl | rfl
  ·exact Zao t0
  ·exact Zao t1
  ·exact Zao t2
  ·exact Zao t3) Xji (by omega)
 have hi:∀ k,∀ e ∈ tlI (xb g k 0) (xb g k 1) (xb g k 2) (xb g k 3),Tells Tryd.prog (rho g none [] 0 w0 (Zau k (Zad g))) e:=fun k=>tlI_ok c xb_iff xb_iff xb_iff xb_iff
 have hw:∀ k,Wf4 g.n (Zau k (Zad g)):=Zqm Znk
 have lo:(rho g none [] 0 w0 MM).base<=ws.heap.size:=hb.size
 refine wpIn_seq (wpIn_block (Zpd (ι:=Nat) (R:=fun k=>rho g none [] 0 w0 (Zau k (Zad g))) (S:=fun _=>stB) (flS:=fun _=>104) (nS:=fun _=>104) (μ:=fun k=>Zem g.n (Zau k (Zad g))) (A:=fun k=>code ysE (clI (xb g k 0) (xb g k 1) (xb g k 2) (xb g k 3)) 104 ql) globs (fun _ _=>rfl)
  (fun k=>Zfy Zjo (Zge txtP.fsL_ok) Zey (Zha (hi k)) hnt (by omega) lp n7 k7) (fun _=>⟨Nat.le_refl _,by omega⟩) (fun k=>⟨?_⟩) (i0:=0) HL))
 obtain ⟨u0,u1,u2,u3⟩:=Zxt (g:=g) (Zau k (Zad g))
 obtain ⟨r0,r1,r2,r3⟩:=Xfm (g:=g) (Zau (k + 1) (Zad g))
 have on:∀ x0 x1 x2 x3,bodyOk x0 x1 x2 x3=true->Zem g.n (Zau (k + 1) (Zad g)) < Zem g.n (Zau k (Zad g))->∃ t' h' n',Zc6 (code ysE (clI x0 x1 x2 x3) 104 ql stB.ft stB.ht 104) .normal t' h' n'/\n'<=1000000 /\
   ∃ j,Zem g.n (Zau j (Zad g)) < Zem g.n (Zau k (Zad g))/\stB.fine=true/\stB.okB t' h'=true/\(∀ x ∈ stB.tl,∀ C el fr,(rho g none [] 0 w0 (Zau k (Zad g))).th x.2.2.2 (.cells C el fr)->(rho g none [] 0 w0 (Zau j (Zad g))).th x.2.1 (.cells C el fr))/\(stB.old.all fun x=>decide (104<=x.1->104<=x.2) && decide (x.1 < 104))=true:=by
  intro x0 x1 x2 x3 hok hlt
  unfold bodyOk at hok
  obtain ⟨g1,hok⟩:=Zac hok (by simp)
  obtain ⟨g2,g3⟩:=Zac hok (by simp)
  refine ⟨_,_,_,Zih g1,Nat.le_of_ble_eq_true g2,k + 1,hlt,fineB,g3,fun e he=>?_,ownB⟩
  simp only [stB,List.mem_cons,List.not_mem_nil,or_false] at he
  rcases he with rfl | rfl | rfl | rfl
  ·exact Zao (by rw [u0,r0]; rfl)
  ·exact Zao (by rw [u1,r1]; rfl)
  ·exact Zao (by rw [u2,r2]; rfl)
  ·exact Zao (by rw [u3,r3]; rfl)
 have down:∀ j,j < 4->xb g k j=false->Zem g.n (Zau (k + 1) (Zad g)) < Zem g.n (Zau k (Zad g)):=fun j hj h=>Zx7 (Zql (hw k)) hj (fun q=>by rw [xb_iff.2 q] at h; cases h)
 cases h0:xb g k 0
 ·obtain ⟨t',h',n',z1,z2,z3⟩:=on false (xb g k 1) (xb g k 2) (xb g k 3) (go0 _ _ _) (down 0 (by omega) h0)
  exact ⟨.normal,t',h',n',z1,z2,.inl ⟨rfl,z3⟩⟩
 cases h1:xb g k 1
 ·obtain ⟨t',h',n',z1,z2,z3⟩:=on true false (xb g k 2) (xb g k 3) (go1 _ _) (down 1 (by omega) h1)
  exact ⟨.normal,t',h',n',z1,z2,.inl ⟨rfl,z3⟩⟩
 cases h2:xb g k 2
 ·obtain ⟨t',h',n',z1,z2,z3⟩:=on true true false (xb g k 3) (go2 _) (down 2 (by omega) h2)
  exact ⟨.normal,t',h',n',z1,z2,.inl ⟨rfl,z3⟩⟩
 cases h3:xb g k 3
 ·obtain ⟨t',h',n',z1,z2,z3⟩:=on true true true false go3 (down 3 (by omega) h3)
  exact ⟨.normal,t',h',n',z1,z2,.inl ⟨rfl,z3⟩⟩
 refine ⟨.exit 0,_,_,_,Zun Xkd,Nat.le_of_ble_eq_true Xkc,.inr ⟨by simp,fun a8 w8 m8 H8=>?_⟩⟩
 simp only [Exit.inBlock,if_true]
 have hst:Zbr (Zau k (Zad g))=Zau k (Zad g):=Yrf (Zpj Zid k) fun j hj=>by
  match j,hj with
  | 0,_=>exact xb_iff.1 h0
  | 1,_=>exact xb_iff.1 h1
  | 2,_=>exact xb_iff.1 h2
  | 3,_=>exact xb_iff.1 h3
 have hend:Zto (Zad g)=Zau k (Zad g):=Yg9 hst
 show b8.wpIn _ _ _ _ _ _
 rw [e8]
 have hik:=hi k
 rw [h0,h1,h2,h3] at hik
 refine H8.seq (Zfy Zjo (Zge txtP.fsL_ok) Zey (Zha hik) hnt (by omega) _ n8 k8) (Ztt Xkb) (Nat.le_of_ble_eq_true Xj9) fun a9 w9 m9 H9=>?_
 refine wpIn_ret ?_
 refine hQ .ret a9 w9 (.inr rfl) ?_
 have HE:Here Tryd.prog (rho g none [] 0 w0 MM) NT 100 ws.heap.size ws stE.ft stE.ht 104 _ a9 w9:=H9.as (s:=stE) (fl2:=100) (n2:=104) globs (Nat.le_of_ble_eq_true Xj8) rfl Xat Xka (fun e he=>by
  simp only [stE,List.mem_cons,List.not_mem_nil,or_false] at he
  rcases he with rfl | rfl | rfl | rfl
  ·exact Zao (by rw [u0,hst,<- hend]; rfl)
  ·exact Zao (by rw [u1,hst,<- hend]; rfl)
  ·exact Zao (by rw [u2,hst,<- hend]; rfl)
  ·exact Zao (by rw [u3,hst,<- hend]; rfl)) Xjj (by omega)
 refine HE.left krs Xjt lo fun u w2 hu hs ho hown=>?_
 exact objs4 hu hs ho hown
end PP
end ToldP
end Go.Proofs.YthcnhbclagegeaaDoor
