/-
  The document's four that keep order: its loop by the evaluator, round by round. Conditions: a graph that may be, in memory.
-/
import Derived.Test.YthcnhbclagegeaaDoorMu
namespace Go.Proofs.YthcnhbclagegeaaDoor
open Go.RowKit RelA
namespace ToldP
namespace PR
open Go.Rn
open PP (Zao Yp1 Znk Zid Zu0)
variable {g:Gr} {w0:World} {MM:M4}
noncomputable def z0:RV:=.fn 1 (.cons gR .nil)
noncomputable def z1:RV:=.fn 2 (.cons gR .nil)
noncomputable def z2:RV:=.fn 5 (.cons gR .nil)
noncomputable def z3:RV:=.fn 70 (.cons gR (.cons (.i .i64 1) (.cons (.i .i64 0) (.cons (.i .i64 4) .nil))))
noncomputable def z4:RV:=.fn 71 (.cons gR (.cons (.i .i64 2) (.cons (.i .i64 0) (.cons (.i .i64 4) .nil))))
noncomputable def z5:RV:=.fn 10 (.cons (.tup (.cons (.mp 2) z3)) (.cons (.tup (.cons (.mp 2) z4)) .nil))
noncomputable def z6:RV:=.fn 31 (.cons nR (.cons (opS 5) .nil))
noncomputable def z7:RV:=.fn 32 (.cons nR (.cons (opS 6) .nil))
noncomputable def z8:RV:=.fn 13 (.cons (.tup (.cons (.mp 2) z7)) (.cons (.tup (.cons (.mp 2) z5)) .nil))
noncomputable def z9:RV:=.fn 33 (.cons nR (.cons (opS 7) .nil))
noncomputable def z10:RV:=.fn 13 (.cons (.tup (.cons (.mp 2) z9)) (.cons (.tup (.cons (.mp 2) z5)) .nil))
noncomputable def z11:RV:=.fn 14 (.cons (.tup (.cons (.mp 2) z0)) .nil)
noncomputable def z12:RV:=.fn 13 (.cons (.tup (.cons (.mp 2) z11)) (.cons (.tup (.cons (.mp 2) z1)) .nil))
noncomputable def z13:RV:=.fn 22 (.cons gR (.cons (.tup (.cons (.mp 2) z2)) .nil))
noncomputable def z14:RV:=.fn 21 (.cons gR (.cons (.tup (.cons (.mp 2) z12)) (.cons (.b false) .nil)))
noncomputable def z15:RV:=.fn 21 (.cons gR (.cons (.tup (.cons (.mp 2) z0)) (.cons (.b false) .nil)))
noncomputable def z16:RV:=.fn 13 (.cons (.tup (.cons (.mp 2) z14)) (.cons (.tup (.cons (.mp 2) z15)) .nil))
noncomputable def z17:RV:=.fn 11 (.cons (.tup (.cons (.mp 2) z13)) (.cons (.tup (.cons (.mp 2) z16)) .nil))
noncomputable def z18:RV:=.fn 21 (.cons gR (.cons (.tup (.cons (.mp 2) z1)) (.cons (.b false) .nil)))
noncomputable def z19:RV:=.fn 13 (.cons (.tup (.cons (.mp 2) z18)) (.cons (.tup (.cons (.mp 2) z15)) .nil))
noncomputable def z20:RV:=.fn 11 (.cons (.tup (.cons (.mp 2) z13)) (.cons (.tup (.cons (.mp 2) z19)) .nil))
noncomputable def z21:RV:=.fn 20 (.cons gR (.cons (.tup (.cons (.mp 2) z0)) (.cons (.b true) .nil)))
noncomputable def z22:RV:=.fn 10 (.cons (.tup (.cons (.mp 2) z6)) (.cons (.tup (.cons (.mp 2) z17)) .nil))
noncomputable def z23:RV:=.fn 10 (.cons (.tup (.cons (.mp 2) z22)) (.cons (.tup (.cons (.mp 2) z21)) .nil))
noncomputable def z24:RV:=.fn 34 (.cons nR (.cons .ns .nil))
noncomputable def z25:RV:=.fn 10 (.cons (.tup (.cons (.mp 2) z10)) (.cons (.tup (.cons (.mp 2) z20)) .nil))
noncomputable def z26:RV:=.fn 10 (.cons (.tup (.cons (.mp 2) z6)) (.cons (.tup (.cons (.mp 2) z13)) .nil))
noncomputable def z27:RV:=.fn 10 (.cons (.tup (.cons (.mp 2) z26)) (.cons (.tup (.cons (.mp 2) z8)) .nil))
noncomputable def f0:RV:=.fn 104 .nil
noncomputable def f1:RV:=.fn 105 .nil
noncomputable def f2:RV:=.fn 106 .nil
noncomputable def f3:RV:=.fn 107 .nil
noncomputable def m0:RV:=.fn 90 .nil
noncomputable def m1:RV:=.fn 91 .nil
noncomputable def m2:RV:=.fn 92 .nil
noncomputable def m3:RV:=.fn 93 .nil
noncomputable def z36:RV:=.fn 13 (.cons (.tup (.cons (.mp 2) f1)) (.cons (.tup (.cons (.mp 2) f2)) .nil))
noncomputable def z37:RV:=.fn 13 (.cons (.tup (.cons (.mp 2) f0)) (.cons (.tup (.cons (.mp 2) f0)) .nil))
noncomputable def z38:RV:=.fn 10 (.cons (.tup (.cons (.mp 2) f0)) (.cons (.tup (.cons (.mp 2) f2)) .nil))
noncomputable def z39:RV:=.fn 10 (.cons (.tup (.cons (.mp 2) z38)) (.cons (.tup (.cons (.mp 2) z36)) .nil))
noncomputable def z40:RV:=.fn 10 (.cons (.tup (.cons (.mp 2) z39)) (.cons (.tup (.cons (.mp 2) z37)) .nil))
noncomputable def z41:RV:=.fn 13 (.cons (.tup (.cons (.mp 2) f1)) (.cons (.tup (.cons (.mp 2) f3)) .nil))
noncomputable def z42:RV:=.fn 13 (.cons (.tup (.cons (.mp 2) f0)) (.cons (.tup (.cons (.mp 2) f1)) .nil))
noncomputable def z43:RV:=.fn 10 (.cons (.tup (.cons (.mp 2) f0)) (.cons (.tup (.cons (.mp 2) f3)) .nil))
noncomputable def z44:RV:=.fn 10 (.cons (.tup (.cons (.mp 2) z43)) (.cons (.tup (.cons (.mp 2) z41)) .nil))
noncomputable def z45:RV:=.fn 10 (.cons (.tup (.cons (.mp 2) z44)) (.cons (.tup (.cons (.mp 2) z42)) .nil))
noncomputable def z46:RV:=.fn 13 (.cons (.tup (.cons (.mp 2) f2)) (.cons (.tup (.cons (.mp 2) f0)) .nil))
noncomputable def z47:RV:=.fn 13 (.cons (.tup (.cons (.mp 2) f3)) (.cons (.tup (.cons (.mp 2) f2)) .nil))
noncomputable def z48:RV:=.fn 10 (.cons (.tup (.cons (.mp 2) f2)) (.cons (.tup (.cons (.mp 2) z46)) .nil))
noncomputable def z49:RV:=.fn 10 (.cons (.tup (.cons (.mp 2) z48)) (.cons (.tup (.cons (.mp 2) z47)) .nil))
noncomputable def z50:RV:=.fn 13 (.cons (.tup (.cons (.mp 2) f2)) (.cons (.tup (.cons (.mp 2) f1)) .nil))
noncomputable def z51:RV:=.fn 13 (.cons (.tup (.cons (.mp 2) f3)) (.cons (.tup (.cons (.mp 2) f3)) .nil))
noncomputable def z52:RV:=.fn 10 (.cons (.tup (.cons (.mp 2) f3)) (.cons (.tup (.cons (.mp 2) f2)) .nil))
noncomputable def z53:RV:=.fn 10 (.cons (.tup (.cons (.mp 2) z52)) (.cons (.tup (.cons (.mp 2) z50)) .nil))
noncomputable def z54:RV:=.fn 10 (.cons (.tup (.cons (.mp 2) z53)) (.cons (.tup (.cons (.mp 2) z51)) .nil))
noncomputable def z55:RV:=.fn 10 (.cons (.tup (.cons (.mp 2) z40)) (.cons (.tup (.cons (.mp 2) f0)) .nil))
noncomputable def z56:RV:=.fn 10 (.cons (.tup (.cons (.mp 2) z45)) (.cons (.tup (.cons (.mp 2) f1)) .nil))
noncomputable def z57:RV:=.fn 10 (.cons (.tup (.cons (.mp 2) z49)) (.cons (.tup (.cons (.mp 2) f2)) .nil))
noncomputable def z58:RV:=.fn 10 (.cons (.tup (.cons (.mp 2) z54)) (.cons (.tup (.cons (.mp 2) f3)) .nil))
noncomputable def z59:RV:=.fn 13 (.cons (.tup (.cons (.mp 2) m1)) (.cons (.tup (.cons (.mp 2) m2)) .nil))
noncomputable def z60:RV:=.fn 13 (.cons (.tup (.cons (.mp 2) m0)) (.cons (.tup (.cons (.mp 2) m0)) .nil))
noncomputable def z61:RV:=.fn 10 (.cons (.tup (.cons (.mp 2) f0)) (.cons (.tup (.cons (.mp 2) m2)) .nil))
noncomputable def z62:RV:=.fn 10 (.cons (.tup (.cons (.mp 2) z61)) (.cons (.tup (.cons (.mp 2) z59)) .nil))
noncomputable def z63:RV:=.fn 10 (.cons (.tup (.cons (.mp 2) z62)) (.cons (.tup (.cons (.mp 2) z60)) .nil))
noncomputable def z64:RV:=.fn 13 (.cons (.tup (.cons (.mp 2) m1)) (.cons (.tup (.cons (.mp 2) m3)) .nil))
noncomputable def z65:RV:=.fn 13 (.cons (.tup (.cons (.mp 2) m0)) (.cons (.tup (.cons (.mp 2) m1)) .nil))
noncomputable def z66:RV:=.fn 10 (.cons (.tup (.cons (.mp 2) m0)) (.cons (.tup (.cons (.mp 2) m3)) .nil))
noncomputable def z67:RV:=.fn 10 (.cons (.tup (.cons (.mp 2) z66)) (.cons (.tup (.cons (.mp 2) z64)) .nil))
noncomputable def z68:RV:=.fn 10 (.cons (.tup (.cons (.mp 2) z67)) (.cons (.tup (.cons (.mp 2) z65)) .nil))
noncomputable def z69:RV:=.fn 13 (.cons (.tup (.cons (.mp 2) m2)) (.cons (.tup (.cons (.mp 2) m0)) .nil))
noncomputable def z70:RV:=.fn 13 (.cons (.tup (.cons (.mp 2) m3)) (.cons (.tup (.cons (.mp 2) m2)) .nil))
noncomputable def z71:RV:=.fn 10 (.cons (.tup (.cons (.mp 2) f2)) (.cons (.tup (.cons (.mp 2) z69)) .nil))
noncomputable def z72:RV:=.fn 10 (.cons (.tup (.cons (.mp 2) z71)) (.cons (.tup (.cons (.mp 2) z70)) .nil))
noncomputable def z73:RV:=.fn 13 (.cons (.tup (.cons (.mp 2) m2)) (.cons (.tup (.cons (.mp 2) m1)) .nil))
noncomputable def z74:RV:=.fn 13 (.cons (.tup (.cons (.mp 2) m3)) (.cons (.tup (.cons (.mp 2) m3)) .nil))
noncomputable def z75:RV:=.fn 10 (.cons (.tup (.cons (.mp 2) f3)) (.cons (.tup (.cons (.mp 2) m2)) .nil))
noncomputable def z76:RV:=.fn 10 (.cons (.tup (.cons (.mp 2) z75)) (.cons (.tup (.cons (.mp 2) z73)) .nil))
noncomputable def z77:RV:=.fn 10 (.cons (.tup (.cons (.mp 2) z76)) (.cons (.tup (.cons (.mp 2) z74)) .nil))
noncomputable def z78:RV:=.fn 10 (.cons (.tup (.cons (.mp 2) z63)) (.cons (.tup (.cons (.mp 2) m0)) .nil))
noncomputable def z79:RV:=.fn 10 (.cons (.tup (.cons (.mp 2) z68)) (.cons (.tup (.cons (.mp 2) m1)) .nil))
noncomputable def z80:RV:=.fn 10 (.cons (.tup (.cons (.mp 2) z72)) (.cons (.tup (.cons (.mp 2) m2)) .nil))
noncomputable def z81:RV:=.fn 10 (.cons (.tup (.cons (.mp 2) z77)) (.cons (.tup (.cons (.mp 2) m3)) .nil))
noncomputable def bd:Code:=(Tryd.f79.body).getD .skip
noncomputable def b1:Code:=cdR bd
noncomputable def b2:Code:=cdR b1
noncomputable def b3:Code:=cdR b2
noncomputable def b4:Code:=cdR b3
noncomputable def b5:Code:=cdR b4
noncomputable def b6:Code:=cdR b5
noncomputable def b7:Code:=cdR b6
noncomputable def b8:Code:=cdR b7
noncomputable def lp:Code:=cdI (cdI b8)
theorem e_bd:Tryd.f79.body=some bd:=by kernel_rfl
theorem e0:bd=.seq (cdL bd) b1:=by kernel_rfl
theorem e1:b1=.seq (cdL b1) b2:=by kernel_rfl
theorem e2:b2=.seq (cdL b2) b3:=by kernel_rfl
theorem e3:b3=.seq (cdL b3) b4:=by kernel_rfl
theorem e4:b4=.seq (cdL b4) b5:=by kernel_rfl
theorem e5:b5=.seq (cdL b5) b6:=by kernel_rfl
theorem e6:b6=.seq (cdL b6) b7:=by kernel_rfl
theorem e7:b7=.seq (cdL b7) b8:=by kernel_rfl
theorem e8:b8=.block 0 (.loop lp):=by kernel_rfl
def q1:RC:=rkR (rkF txtP.rc79)
def q2:RC:=rkR q1
def q3:RC:=rkR q2
def q4:RC:=rkR q3
def q5:RC:=rkR q4
def q6:RC:=rkR q5
def q7:RC:=rkR q6
def q8:RC:=rkR q7
def ql:RC:=rkI (rkI q8)
noncomputable abbrev NT:Nat:=Tryd.f79.ntmps
theorem hnt:NT < 1000000:=of_decide_eq_true (by kernel_rfl)
theorem globs:Tryd.prog.globals.size<=100:=of_decide_eq_true (by kernel_rfl)
theorem k0:Zb7 Tryd.prog NT 79 (cdL bd) 0=rkL (rkF txtP.rc79):=by kernel_rfl
theorem n0:Zbb (cdL bd)=[]:=by kernel_rfl
theorem k1:Zb7 Tryd.prog NT 79 (cdL b1) 0=rkL q1:=by kernel_rfl
theorem n1:Zbb (cdL b1)=[]:=by kernel_rfl
theorem k2:Zb7 Tryd.prog NT 79 (cdL b2) 0=rkL q2:=by kernel_rfl
theorem n2:Zbb (cdL b2)=[]:=by kernel_rfl
theorem k3:Zb7 Tryd.prog NT 79 (cdL b3) 0=rkL q3:=by kernel_rfl
theorem n3:Zbb (cdL b3)=[]:=by kernel_rfl
theorem k4:Zb7 Tryd.prog NT 79 (cdL b4) 0=rkL q4:=by kernel_rfl
theorem n4:Zbb (cdL b4)=[]:=by kernel_rfl
theorem k5:Zb7 Tryd.prog NT 79 (cdL b5) 0=rkL q5:=by kernel_rfl
theorem n5:Zbb (cdL b5)=[]:=by kernel_rfl
theorem k6:Zb7 Tryd.prog NT 79 (cdL b6) 0=rkL q6:=by kernel_rfl
theorem n6:Zbb (cdL b6)=[]:=by kernel_rfl
theorem k7:Zb7 Tryd.prog NT 79 (cdL b7) 0=rkL q7:=by kernel_rfl
theorem n7:Zbb (cdL b7)=[]:=by kernel_rfl
theorem k8:Zb7 Tryd.prog NT 79 lp 0=ql:=by kernel_rfl
theorem n8:Zbb lp=[]:=by kernel_rfl
noncomputable def tl:List (Nat × Nat × RV):=[(48,0,chW Zry),(116,0,chW Ya1),(130,0,chW Zr0),(142,0,chW Zmp),(98,0,chW Zmm),(97,0,chW Zmr),(129,0,chW Zmq),(50,0,chW Ya0),(52,0,chW Ya2),(55,0,chW Zrz),(102,0,chW Zmn),(141,0,chW Zmo)]
set_option maxRecDepth 20000 in
theorem tl_ok {M:M4} (c:Cx g none [] 0 w0):∀ e ∈ tl,Tells Tryd.prog (rho g none [] 0 w0 M) e:=by
 unfold tl
 refine List.forall_mem_cons.2 ⟨Yf5 c,?_⟩
 refine List.forall_mem_cons.2 ⟨Yq8 c,?_⟩
 refine List.forall_mem_cons.2 ⟨Yf7 c,?_⟩
 refine List.forall_mem_cons.2 ⟨Zxn c,?_⟩
 refine List.forall_mem_cons.2 ⟨Zxk c,?_⟩
 refine List.forall_mem_cons.2 ⟨Zxp c,?_⟩
 refine List.forall_mem_cons.2 ⟨Zxo c,?_⟩
 refine List.forall_mem_cons.2 ⟨Yq7 c,?_⟩
 refine List.forall_mem_cons.2 ⟨Yq9 c,?_⟩
 refine List.forall_mem_cons.2 ⟨Yf6 c,?_⟩
 refine List.forall_mem_cons.2 ⟨Zxl c,?_⟩
 refine List.forall_mem_cons.2 ⟨Zxm c,?_⟩
 exact fun _ h=>by cases h
noncomputable def Ya6 (x0 x1 x2 x3:Bool):List (RV × RV):=[(.cons (.tup (.cons (.mp 2) z55)) (.cons (.tup (.cons (.mp 2) f0)) .nil),.b x0),(.cons (.tup (.cons (.mp 2) z56)) (.cons (.tup (.cons (.mp 2) f1)) .nil),.b x1),(.cons (.tup (.cons (.mp 2) z57)) (.cons (.tup (.cons (.mp 2) f2)) .nil),.b x2),(.cons (.tup (.cons (.mp 2) z58)) (.cons (.tup (.cons (.mp 2) f3)) .nil),.b x3)]
noncomputable def Ya5 (x0 x1 x2 x3:Bool):List (RV × RV):=[(.cons (.tup (.cons (.mp 2) z78)) (.cons (.tup (.cons (.mp 2) m0)) .nil),.b x0),(.cons (.tup (.cons (.mp 2) z79)) (.cons (.tup (.cons (.mp 2) m1)) .nil),.b x1),(.cons (.tup (.cons (.mp 2) z80)) (.cons (.tup (.cons (.mp 2) m2)) .nil),.b x2),(.cons (.tup (.cons (.mp 2) z81)) (.cons (.tup (.cons (.mp 2) m3)) .nil),.b x3)]
noncomputable def tlI (l:Bool->Bool->Bool->Bool->List (RV × RV)) (x0 x1 x2 x3:Bool):List (Nat × Nat × RV):=(128,1,chV (l x0 x1 x2 x3))::tl
def Up (g:Gr) (M:M4):Prop:=∀ c,c < 4->Wi (Zad g c) (M c)
theorem a0 {A M0 M1 M2:Nat->Nat->Bool} (h:Wi A M0):orM (orM (orM (orM A M2) (Zcd M1 M2)) (Zcd M0 M0)) M0=orM (orM (orM M0 M2) (Zcd M1 M2)) (Zcd M0 M0):=by
 funext i j
 have:=h i j
 unfold RelA.orM
 generalize A i j=a at *; generalize M0 i j=b at *; generalize M2 i j=c at *; generalize Zcd M1 M2 i j=d at *; generalize Zcd M0 M0 i j=e at *
 cases a <;> cases b <;> cases c <;> cases d <;> cases e <;> simp_all
theorem a1 {M0 M1 M3:Nat->Nat->Bool}:orM (orM (orM (orM M0 M3) (Zcd M1 M3)) (Zcd M0 M1)) M1=orM (orM (orM (orM M1 M0) M3) (Zcd M1 M3)) (Zcd M0 M1):=by
 funext i j
 unfold RelA.orM
 generalize M0 i j=a; generalize M1 i j=b; generalize M3 i j=c; generalize Zcd M1 M3 i j=d; generalize Zcd M0 M1 i j=e
 cases a <;> cases b <;> cases c <;> cases d <;> cases e <;> rfl
theorem a2 {A M0 M2 M3:Nat->Nat->Bool} (h:Wi A M2):orM (orM (orM A (Zcd M2 M0)) (Zcd M3 M2)) M2=orM (orM M2 (Zcd M2 M0)) (Zcd M3 M2):=by
 funext i j
 have:=h i j
 unfold RelA.orM
 generalize A i j=a at *; generalize M2 i j=b at *; generalize Zcd M2 M0 i j=d at *; generalize Zcd M3 M2 i j=e at *
 cases a <;> cases b <;> cases d <;> cases e <;> simp_all
theorem a3 {A M1 M2 M3:Nat->Nat->Bool} (h:Wi A M3):orM (orM (orM (orM A M2) (Zcd M2 M1)) (Zcd M3 M3)) M3=orM (orM (orM M3 M2) (Zcd M2 M1)) (Zcd M3 M3):=by
 funext i j
 have:=h i j
 unfold RelA.orM
 generalize A i j=a at *; generalize M3 i j=b at *; generalize M2 i j=c at *; generalize Zcd M2 M1 i j=d at *; generalize Zcd M3 M3 i j=e at *
 cases a <;> cases b <;> cases c <;> cases d <;> cases e <;> simp_all
theorem Yre (M:M4):mx g [] M z55=Zbr (Zad g) 0/\mx g [] M z56=Zbr (Zad g) 1/\mx g [] M z57=Zbr (Zad g) 2/\mx g [] M z58=Zbr (Zad g) 3:=⟨a0 (fun _ _ a=>a),a1,a2 (fun _ _ a=>a),a3 (fun _ _ a=>a)⟩
theorem Xjs (M:M4):mx g [] M f0=(Zad g) 0/\mx g [] M f1=(Zad g) 1/\mx g [] M f2=(Zad g) 2/\mx g [] M f3=(Zad g) 3:=⟨rfl,rfl,rfl,rfl⟩
theorem Yrd (M:M4) (h:Up g M):mx g [] M z78=Zbr M 0/\mx g [] M z79=Zbr M 1/\mx g [] M z80=Zbr M 2/\mx g [] M z81=Zbr M 3:=⟨a0 (h 0 (by omega)),a1,a2 (h 2 (by omega)),a3 (h 3 (by omega))⟩
theorem Xjr (M:M4):mx g [] M m0=M 0/\mx g [] M m1=M 1/\mx g [] M m2=M 2/\mx g [] M m3=M 3:=⟨rfl,rfl,rfl,rfl⟩
theorem Zqp:∀ k,Up g (Zau k (Zad g))
 | 0=>fun _ _ _ _ a=>a
 | k + 1=>fun c hc i j a=>Yia _ c hc i j (Zqp k c hc i j a)
set_option maxRecDepth 20000 in
theorem tlI_ok {M:M4} {l:Bool->Bool->Bool->Bool->List (RV × RV)} {x0 x1 x2 x3:Bool} (c:Cx g none [] 0 w0)
  (hl:∀ e ∈ l x0 x1 x2 x3,∃ q1 q2 x,e=(.cons (.tup (.cons (.mp 2) q1)) (.cons (.tup (.cons (.mp 2) q2)) .nil),.b x)/\(x=true ↔ Wi (mx g [] M q1) (mx g [] M q2))):∀ e ∈ tlI l x0 x1 x2 x3,Tells Tryd.prog (rho g none [] 0 w0 M) e:=by
 unfold tlI
 refine List.forall_mem_cons.2 ⟨Ze6 (by kernel_rfl) (fun x hx=>?_),tl_ok c⟩
 have hs:∀ (b c n:Nat) (M S:Nat->Nat->Bool) (w:World),Rk 2 w b n M->Rk 2 w c n S->n<=40->∀ (x:Bool),(x=true ↔ Wi M S)->Calls Tryd.prog 128 #[.pointer (some ⟨b,0,none⟩),.pointer (some ⟨c,0,none⟩)] w fun e w'=>e=.returned (.bool x)/\Below w.heap.size w w':=fun b c n M S w h1 h2 hn x hx=>Yy3 b c n M S w h1 h2 hn x hx
 obtain ⟨q1,q2,y,rfl,h⟩:=hl x hx
 exact Zhm c 2 hs h
noncomputable def cl:Cl':=Zh4 ysE (inL txtP.fsL) (fun _ _=>none) (kcL tl) 60
noncomputable def clI (l:Bool->Bool->Bool->Bool->List (RV × RV)) (x0 x1 x2 x3:Bool):Cl':=Zh4 ysE (inL txtP.fsL) (fun _ _=>none) (kcL (tlI l x0 x1 x2 x3)) 60
noncomputable def s0:BR:=code ysE cl 100 (rkL (rkF txtP.rc79)) (lay (.cons gR .nil) te 0) he 100
noncomputable def s1:BR:=andThen s0 (code ysE cl 100 (rkL q1))
noncomputable def s2:BR:=andThen s1 (code ysE cl 100 (rkL q2))
noncomputable def s3:BR:=andThen s2 (code ysE cl 100 (rkL q3))
noncomputable def s4:BR:=andThen s3 (code ysE cl 100 (rkL q4))
noncomputable def s5:BR:=andThen s4 (code ysE cl 100 (rkL q5))
noncomputable def s6:BR:=andThen s5 (code ysE cl 100 (rkL q6))
noncomputable def s7:BR:=andThen s6 (code ysE cl 100 (rkL q7))
set_option maxRecDepth 100000
theorem i0:Zkw s0=true:=by kernel_rfl
theorem i1:Zkw s1=true:=by kernel_rfl
theorem i2:Zkw s2=true:=by kernel_rfl
theorem i3:Zkw s3=true:=by kernel_rfl
theorem i4:Zkw s4=true:=by kernel_rfl
theorem i5:Zkw s5=true:=by kernel_rfl
theorem i6:Zkw s6=true:=by kernel_rfl
theorem i7:Zkw s7=true:=by kernel_rfl
noncomputable def stA:Stt:=⟨[(2,.p 106 0),(9,.p 104 0),(10,.p 105 0)],[(100,(.cons (.mp 2) f0),137,(.cons (.mp 2) z23)),(101,(.cons (.mp 2) f1),117,(.cons (.mp 2) z24)),(102,(.cons (.mp 2) f2),152,(.cons (.mp 2) z25)),(103,(.cons (.mp 2) f3),157,(.cons (.mp 2) z27))],[(104,[.p 100 0,.p 101 0,.p 102 0,.p 103 0],4,158),(105,[.p 100 0,.p 101 0,.p 102 0,.p 103 0],4,159),(106,[.np,.np,.np,.np],4,101)]⟩
noncomputable def stB:Stt:=⟨[(2,.p 110 0),(9,.p 108 0),(10,.p 109 0)],[(100,(.cons (.mp 2) f0),100,(.cons (.mp 2) f0)),(101,(.cons (.mp 2) f1),101,(.cons (.mp 2) f1)),(102,(.cons (.mp 2) f2),102,(.cons (.mp 2) f2)),(103,(.cons (.mp 2) f3),103,(.cons (.mp 2) f3)),(104,(.cons (.mp 2) m0),127,(.cons (.mp 2) z55)),(105,(.cons (.mp 2) m1),128,(.cons (.mp 2) z56)),(106,(.cons (.mp 2) m2),129,(.cons (.mp 2) z57)),(107,(.cons (.mp 2) m3),130,(.cons (.mp 2) z58))],[(108,[.p 100 0,.p 101 0,.p 102 0,.p 103 0],4,104),(109,[.p 104 0,.p 105 0,.p 106 0,.p 107 0],4,105),(110,[.np,.np,.np,.np],4,106)]⟩
noncomputable def stC:Stt:=⟨[(2,.p 110 0),(9,.p 108 0),(10,.p 109 0)],[(100,(.cons (.mp 2) f0),100,(.cons (.mp 2) f0)),(101,(.cons (.mp 2) f1),101,(.cons (.mp 2) f1)),(102,(.cons (.mp 2) f2),102,(.cons (.mp 2) f2)),(103,(.cons (.mp 2) f3),103,(.cons (.mp 2) f3)),(104,(.cons (.mp 2) m0),131,(.cons (.mp 2) z78)),(105,(.cons (.mp 2) m1),132,(.cons (.mp 2) z79)),(106,(.cons (.mp 2) m2),133,(.cons (.mp 2) z80)),(107,(.cons (.mp 2) m3),134,(.cons (.mp 2) z81))],[(108,[.p 100 0,.p 101 0,.p 102 0,.p 103 0],4,108),(109,[.p 104 0,.p 105 0,.p 106 0,.p 107 0],4,109),(110,[.np,.np,.np,.np],4,110)]⟩
noncomputable def Zjm (x0 x1 x2 x3:Bool):BR:=code ysE (clI Ya6 x0 x1 x2 x3) 105 ql stA.ft stA.ht 107
noncomputable def Zjl (x0 x1 x2 x3:Bool):BR:=code ysE (clI Ya5 x0 x1 x2 x3) 109 ql stB.ft stB.ht 111
noncomputable def bodyOk (b:Bool->Bool->Bool->Bool->BR) (st:Stt) (x0 x1 x2 x3:Bool):Bool:=bf (Zkw (b x0 x1 x2 x3)) (bf (Nat.ble (nB (b x0 x1 x2 x3)) 1000000) (st.okB (tB (b x0 x1 x2 x3)) (hB (b x0 x1 x2 x3))) false) false
theorem Xj5 (x1 x2 x3:Bool):bodyOk Zjm stB false x1 x2 x3=true:=by kernel_rfl
theorem Xj4 (x2 x3:Bool):bodyOk Zjm stB true false x2 x3=true:=by kernel_rfl
theorem Xj3 (x3:Bool):bodyOk Zjm stB true true false x3=true:=by kernel_rfl
theorem Xj2:bodyOk Zjm stB true true true false=true:=by kernel_rfl
theorem Xj1 (x1 x2 x3:Bool):bodyOk Zjl stC false x1 x2 x3=true:=by kernel_rfl
theorem Xj0 (x2 x3:Bool):bodyOk Zjl stC true false x2 x3=true:=by kernel_rfl
theorem Xjz (x3:Bool):bodyOk Zjl stC true true false x3=true:=by kernel_rfl
theorem Xjy:bodyOk Zjl stC true true true false=true:=by kernel_rfl
noncomputable def stEA:Stt:=⟨[(2,.p 104 0)],[(100,(.cons (.mp 2) (.fn 100 (.cons gR .nil))),127,(.cons (.mp 2) z55)),(101,(.cons (.mp 2) (.fn 101 (.cons gR .nil))),128,(.cons (.mp 2) z56)),(102,(.cons (.mp 2) (.fn 102 (.cons gR .nil))),129,(.cons (.mp 2) z57)),(103,(.cons (.mp 2) (.fn 103 (.cons gR .nil))),130,(.cons (.mp 2) z58))],[(104,[.p 100 0,.p 101 0,.p 102 0,.p 103 0],4,106)]⟩
noncomputable def stEB:Stt:=⟨[(2,.p 104 0)],[(100,(.cons (.mp 2) (.fn 100 (.cons gR .nil))),131,(.cons (.mp 2) z78)),(101,(.cons (.mp 2) (.fn 101 (.cons gR .nil))),132,(.cons (.mp 2) z79)),(102,(.cons (.mp 2) (.fn 102 (.cons gR .nil))),133,(.cons (.mp 2) z80)),(103,(.cons (.mp 2) (.fn 103 (.cons gR .nil))),134,(.cons (.mp 2) z81))],[(104,[.p 100 0,.p 101 0,.p 102 0,.p 103 0],4,110)]⟩
theorem Xa1:Yxe (Zjm true true true true)=true:=by kernel_rfl
theorem Ysi:Nat.ble (nB (Zjm true true true true)) 1000000=true:=by kernel_rfl
theorem Xa0:stEA.okB (tB (Zjm true true true true)) (hB (Zjm true true true true))=true:=by kernel_rfl
theorem Yuj:stEA.fine=true:=by kernel_rfl
theorem Yzd:(stEA.old.all fun e=>decide (100<=e.1->105<=e.2) && decide (e.1 < 105))=true:=by kernel_rfl
theorem Xaz:Yxe (Zjl true true true true)=true:=by kernel_rfl
theorem Ysh:Nat.ble (nB (Zjl true true true true)) 1000000=true:=by kernel_rfl
theorem Xay:stEB.okB (tB (Zjl true true true true)) (hB (Zjl true true true true))=true:=by kernel_rfl
theorem Yui:stEB.fine=true:=by kernel_rfl
theorem Yzc:(stEB.old.all fun e=>decide (100<=e.1->109<=e.2) && decide (e.1 < 105))=true:=by kernel_rfl
theorem Xav:stA.fine=true:=by kernel_rfl
theorem fineB:stB.fine=true:=by kernel_rfl
theorem Xau:stC.fine=true:=by kernel_rfl
theorem okA:stA.okB (tB s7) (hB s7)=true:=by kernel_rfl
theorem Xjl:(stA.old.all fun e=>decide (105<=e.1->100<=e.2) && decide (e.1 < 107))=true:=by kernel_rfl
theorem ownB:(stB.old.all fun e=>decide (109<=e.1->105<=e.2) && decide (e.1 < 111))=true:=by kernel_rfl
theorem Xjk:(stC.old.all fun e=>decide (109<=e.1->109<=e.2) && decide (e.1 < 111))=true:=by kernel_rfl
theorem j0:Nat.ble 100 (nB s0)=true:=by kernel_rfl
theorem j1:Nat.ble 100 (nB s1)=true:=by kernel_rfl
theorem j2:Nat.ble 100 (nB s2)=true:=by kernel_rfl
theorem j3:Nat.ble 100 (nB s3)=true:=by kernel_rfl
theorem j4:Nat.ble 100 (nB s4)=true:=by kernel_rfl
theorem j5:Nat.ble 100 (nB s5)=true:=by kernel_rfl
theorem j6:Nat.ble 100 (nB s6)=true:=by kernel_rfl
theorem j7:Nat.ble (nB s7) 1000000=true:=by kernel_rfl
theorem krs:Tryd.f79.results.toList.mapM (Zej Tryd.prog NT)=some (Yp1 txtP.rc79):=by kernel_rfl
theorem Xam:ret stEA.ft stEA.ht 105 (Yp1 txtP.rc79)=.ok (.agg (.cons (.p 100 0) (.cons (.p 101 0) (.cons (.p 102 0) (.cons (.p 103 0) .nil))))) stEA.ht 105:=by kernel_rfl
def ks:RV:=.cons (.mp 2) (.cons (.mp 2) (.cons (.mp 2) (.cons (.mp 2) .nil)))
theorem hx0:hg stEA.ht 100=.bk (cst ce (.tup (.cons (.mp 2) (.fn 100 (.cons gR .nil)))) 0) Zas:=by kernel_rfl
theorem hx1:hg stEA.ht 101=.bk (cst ce (.tup (.cons (.mp 2) (.fn 101 (.cons gR .nil)))) 0) Zas:=by kernel_rfl
theorem hx2:hg stEA.ht 102=.bk (cst ce (.tup (.cons (.mp 2) (.fn 102 (.cons gR .nil)))) 0) Zas:=by kernel_rfl
theorem hx3:hg stEA.ht 103=.bk (cst ce (.tup (.cons (.mp 2) (.fn 103 (.cons gR .nil)))) 0) Zas:=by kernel_rfl
theorem objs4 {m:Mp} {u:Value} {w2 ws:World} (hu:den (rho g none [] 0 w0 MM) m (.agg (.cons (.p 100 0) (.cons (.p 101 0) (.cons (.p 102 0) (.cons (.p 103 0) .nil))))) u) (hs:Sim Tryd.prog (rho g none [] 0 w0 MM) m 100 stEA.ht w2) (ho:Go.Rn.Old ws w2)
  (hown:∀ b c z B O Z,100<=b->hg stEA.ht b=.bk c z->m b=some (B,O,Z)->ws.heap.size<=B):∃ Bs,Ending.returned u=.returned (wrapV 33554435 Bs)/\Objs (rho g none [] 0 w0 MM) (.cons gR .nil) ws.heap.size w2 ks 100 Bs/\Go.Rn.Old ws w2:=by
 obtain ⟨cs,hc,_,rfl⟩:=hu
 obtain ⟨v0,y0,rfl,⟨B0,O0,Z0,p0,rfl⟩,hc1⟩:=denC_cons.1 hc
 obtain ⟨v1,y1,rfl,⟨B1,O1,Z1,p1,rfl⟩,hc2⟩:=denC_cons.1 hc1
 obtain ⟨v2,y2,rfl,⟨B2,O2,Z2,p2,rfl⟩,hc3⟩:=denC_cons.1 hc2
 obtain ⟨v3,y3,rfl,⟨B3,O3,Z3,p3,rfl⟩,hc4⟩:=denC_cons.1 hc3
 obtain rfl:=denC_nil.1 hc4
 obtain ⟨_,_,C0,el0,fr0,q0,h0,t0⟩:=hs.told hx0 (Zmb _)
 obtain ⟨_,_,C1,el1,fr1,q1,h1,t1⟩:=hs.told hx1 (Zmb _)
 obtain ⟨_,_,C2,el2,fr2,q2,h2,t2⟩:=hs.told hx2 (Zmb _)
 obtain ⟨_,_,C3,el3,fr3,q3,h3,t3⟩:=hs.told hx3 (Zmb _)
 rw [p0] at q0; rw [p1] at q1; rw [p2] at q2; rw [p3] at q3
 cases q0; cases q1; cases q2; cases q3
 have n01:B0 ≠ B1:=fun e=>by subst e; exact absurd (hs.inj _ _ _ _ _ _ _ _ _ _ _ hx0 hx1 p0 p1) (by decide)
 have n02:B0 ≠ B2:=fun e=>by subst e; exact absurd (hs.inj _ _ _ _ _ _ _ _ _ _ _ hx0 hx2 p0 p2) (by decide)
 have n03:B0 ≠ B3:=fun e=>by subst e; exact absurd (hs.inj _ _ _ _ _ _ _ _ _ _ _ hx0 hx3 p0 p3) (by decide)
 have n12:B1 ≠ B2:=fun e=>by subst e; exact absurd (hs.inj _ _ _ _ _ _ _ _ _ _ _ hx1 hx2 p1 p2) (by decide)
 have n13:B1 ≠ B3:=fun e=>by subst e; exact absurd (hs.inj _ _ _ _ _ _ _ _ _ _ _ hx1 hx3 p1 p3) (by decide)
 have n23:B2 ≠ B3:=fun e=>by subst e; exact absurd (hs.inj _ _ _ _ _ _ _ _ _ _ _ hx2 hx3 p2 p3) (by decide)
 have g0:=hown _ _ _ _ _ _ (by omega) hx0 p0
 have g1:=hown _ _ _ _ _ _ (by omega) hx1 p1
 have g2:=hown _ _ _ _ _ _ (by omega) hx2 p2
 have g3:=hown _ _ _ _ _ _ (by omega) hx3 p3
 refine ⟨[B0,B1,B2,B3],?_,⟨B0,[B1,B2,B3],C0,el0,fr0,rfl,g0,by simp [n01,n02,n03],h0,t0,⟨B1,[B2,B3],C1,el1,fr1,rfl,g1,by simp [n12,n13],h1,t1,⟨B2,[B3],C2,el2,fr2,rfl,g2,by simp [n23],h2,t2,⟨B3,[],C3,el3,fr3,rfl,g3,by simp,h3,t3,rfl⟩⟩⟩⟩,ho⟩
 unfold wrapV
 rw [if_neg (by decide),if_neg (by decide)]
 rfl
theorem k_r {c:Cx g none [] 0 w0}:kM g 1 0 4=evM g 1 []:=Zkr fun i hi=>by
 have h:=(Yif c.ck i hi).2.2
 unfold evB Zqd
 by_cases e:(Ev.at g.E i).kd=1
 ·rcases h e with h | h <;> simp [e,h]
 ·have e2:((Ev.at g.E i).kd == 1)=false:=beq_eq_false_iff_ne.2 e
  rw [e2]; rfl
theorem k_w {c:Cx g none [] 0 w0}:kM g 2 0 4=evM g 2 []:=Zkr fun i hi=>by
 have h:=(Yif c.ck i hi).2.1
 unfold evB Zqd
 by_cases e:(Ev.at g.E i).kd=2
 ·rcases h e with h | h <;> simp [e,h]
 ·have e2:((Ev.at g.E i).kd == 2)=false:=beq_eq_false_iff_ne.2 e
  rw [e2]; rfl
theorem Yt6 {c:Cx g none [] 0 w0}:orM (kM g 1 0 4) (kM g 2 0 4)=orM (evM g 1 []) (evM g 2 []):=by
 rw [k_r (c:=c),k_w (c:=c)]
theorem mn_loc {c:Cx g none [] 0 w0}:mnM g.E (Zgk g.E)=Zcl g.E (Zgk g.E):=by
 funext i j
 unfold mnM Zcl
 cases h:Zgk g.E i j with
 | false=>rfl
 | true=>
  cases e:((Ev.at g.E i).th == (Ev.at g.E j).th) with
  | false=>simp
  | true=>
   have hp:0 < (Ev.at g.E i).th:=by
    unfold Zgk at h
    rw [Bool.and_eq_true] at h
    have h1:=h.1
    unfold poM at h1
    rw [Bool.and_eq_true] at h1
    have h2:=h1.2
    unfold poB at h2
    have h3:=Yq5 c.ck i
    have e3:(Ev.at g.E i).th=(Ev.at g.E j).th:=by simpa using e
    rw [<- e3] at h2
    rcases Classical.em ((Ev.at g.E i).th=0) with q | q
    ·rw [q] at h2; simp at h2
    ·omega
   simp [hp]
theorem out_eq (A:Nat->Nat->Bool):Zd9 g.E A=Yag g A:=by
 funext i j
 unfold Zd9 Yag Ziv Zcl
 cases A i j <;> cases ((Ev.at g.E i).th == (Ev.at g.E j).th) <;> rfl
theorem start_mx (c:Cx g none [] 0 w0):mx g [] MM z23=Zad g 0/\mx g [] MM z24=Zad g 1/\mx g [] MM z25=Zad g 2/\mx g [] MM z27=Zad g 3:=by
 have h1:=Yt6 (c:=c)
 have h2:=mn_loc (c:=c)
 refine ⟨?_,rfl,?_,?_⟩
 ·show orM (orM (ofM g.n g.Data) (Zp8 (mnM g.E (Zgk g.E)) (Zcd (Zd9 g.E (Zcd (Zk8 (rfM g)) (coM g))) (Zd9 g.E (rfM g))))) (Zcl g.E (rfM g))=_
  rw [h2,out_eq,out_eq]; rfl
 ·show orM (Zcd (ofM g.n g.CtrlI) (orM (kM g 1 0 4) (kM g 2 0 4))) (Zp8 (mnM g.E (Zgk g.E)) (Zcd (Zd9 g.E (coM g)) (Zd9 g.E (rfM g))))=_
  rw [h1,h2,out_eq,out_eq]; rfl
 ·show orM (orM (ofM g.n g.Data) (mnM g.E (Zgk g.E))) (Zcd (ofM g.n g.Ctrl) (orM (kM g 1 0 4) (kM g 2 0 4)))=_
  rw [h1,h2]; rfl
noncomputable def stS:Nat->Stt | 0=>stA | 1=>stB | _=>stC
def flS:Nat->Nat | 0=>105 | _=>109
def nS:Nat->Nat | 0=>107 | _=>111
noncomputable def Xa8 (g:Gr):Nat->Bd
 | 0=>code ysE (clI Ya6 (PP.xb g 0 0) (PP.xb g 0 1) (PP.xb g 0 2) (PP.xb g 0 3)) 105 ql
 | k + 1=>code ysE (clI Ya5 (PP.xb g (k + 1) 0) (PP.xb g (k + 1) 1) (PP.xb g (k + 1) 2) (PP.xb g (k + 1) 3)) 109 ql
set_option maxHeartbeats 4000000 in
theorem rparts_l (c:Cx g none [] 0 w0) (ws:World) (hb:Below w0.heap.size w0 ws):Calls Tryd.prog 79 #[g.v] ws fun e w'=>∃ Bs,e=.returned (wrapV 33554435 Bs)/\Objs (rho g none [] 0 w0 MM) (.cons gR .nil) ws.heap.size w' ks 100 Bs/\Go.Rn.Old ws w':=by
 refine Zl3 (ws:=ws) Tryd.func79 e_bd fun Q a0 hQ hd ht=>?_
 have pk:∀ (x:Code) {rc:RC},Zbb x=[]->Zb7 Tryd.prog NT 79 x 0=rc->Zp9 none Tryd.prog (rho g none [] 0 w0 MM) 100 100 NT (code ysE cl 100 rc) (Wp none Tryd.prog x):=fun x _ h1 h2=>Zfy Zjo (Zge txtP.fsL_ok) Zey (Zha (tl_ok c)) hnt (Nat.le_refl _) x h1 h2
 have H0:Here Tryd.prog (rho g none [] 0 w0 MM) NT 100 ws.heap.size ws (lay (.cons gR .nil) te 0) he 100 _ a0 ws:=Here.start (fn:=Tryd.f79) hnt globs (c:=.cons gR .nil) (q:=1) (vs:=[g.v]) rfl (fun m=>denC_cons.2 ⟨_,_,rfl,Yib m,denC_nil.2 rfl⟩) hb hd ht
 rw [e0]
 refine H0.seq (pk _ n0 k0) (Ztt i0) (Nat.le_refl _) fun a1 w1 m1 H1=>?_
 rw [e1]
 refine H1.seq (pk _ n1 k1) (Zcv i0 i1) (Nat.le_of_ble_eq_true j0) fun a2 w2 m2 H2=>?_
 rw [e2]
 refine H2.seq (pk _ n2 k2) (Zcv i1 i2) (Nat.le_of_ble_eq_true j1) fun a3 w3 m3 H3=>?_
 rw [e3]
 refine H3.seq (pk _ n3 k3) (Zcv i2 i3) (Nat.le_of_ble_eq_true j2) fun a4 w4 m4 H4=>?_
 rw [e4]
 refine H4.seq (pk _ n4 k4) (Zcv i3 i4) (Nat.le_of_ble_eq_true j3) fun a5 w5 m5 H5=>?_
 rw [e5]
 refine H5.seq (pk _ n5 k5) (Zcv i4 i5) (Nat.le_of_ble_eq_true j4) fun a6 w6 m6 H6=>?_
 rw [e6]
 refine H6.seq (pk _ n6 k6) (Zcv i5 i6) (Nat.le_of_ble_eq_true j5) fun a7 w7 m7 H7=>?_
 rw [e7]
 refine H7.seq (pk _ n7 k7) (Zcv i6 i7) (Nat.le_of_ble_eq_true j6) fun a8 w8 m8 H8=>?_
 rw [e8]
 obtain ⟨t0,t1,t2,t3⟩:=start_mx (MM:=MM) c
 have HL:Here Tryd.prog (rho g none [] 0 w0 (Zau 0 (Zad g))) NT 105 ws.heap.size ws stA.ft stA.ht 107 _ a8 w8:=H8.as (s:=stA) (fl2:=105) (n2:=107) globs (Nat.le_of_ble_eq_true j7) rfl Xav okA (fun e he=>by
  simp only [stA,List.mem_cons,List.not_mem_nil,or_false] at he
  rcases he with rfl | rfl | rfl | rfl
  ·exact Zao t0
  ·exact Zao t1
  ·exact Zao t2
  ·exact Zao t3) Xjl (by omega)
 have hiA:∀ e ∈ tlI Ya6 (PP.xb g 0 0) (PP.xb g 0 1) (PP.xb g 0 2) (PP.xb g 0 3),Tells Tryd.prog (rho g none [] 0 w0 (Zau 0 (Zad g))) e:=tlI_ok c fun e he=>by
  obtain ⟨u0,u1,u2,u3⟩:=Yre (g:=g) (Zau 0 (Zad g))
  obtain ⟨r0,r1,r2,r3⟩:=Xjs (g:=g) (Zau 0 (Zad g))
  simp only [Ya6,List.mem_cons,List.not_mem_nil,or_false] at he
  rcases he with rfl | rfl | rfl | rfl
  ·exact ⟨_,_,_,rfl,by rw [u0,r0]; exact PP.xb_iff⟩
  ·exact ⟨_,_,_,rfl,by rw [u1,r1]; exact PP.xb_iff⟩
  ·exact ⟨_,_,_,rfl,by rw [u2,r2]; exact PP.xb_iff⟩
  ·exact ⟨_,_,_,rfl,by rw [u3,r3]; exact PP.xb_iff⟩
 have hiB:∀ k,∀ e ∈ tlI Ya5 (PP.xb g k 0) (PP.xb g k 1) (PP.xb g k 2) (PP.xb g k 3),Tells Tryd.prog (rho g none [] 0 w0 (Zau k (Zad g))) e:=fun k=>tlI_ok c fun e he=>by
  obtain ⟨u0,u1,u2,u3⟩:=Yrd (g:=g) (Zau k (Zad g)) (Zqp k)
  obtain ⟨r0,r1,r2,r3⟩:=Xjr (g:=g) (Zau k (Zad g))
  simp only [Ya5,List.mem_cons,List.not_mem_nil,or_false] at he
  rcases he with rfl | rfl | rfl | rfl
  ·exact ⟨_,_,_,rfl,by rw [u0,r0]; exact PP.xb_iff⟩
  ·exact ⟨_,_,_,rfl,by rw [u1,r1]; exact PP.xb_iff⟩
  ·exact ⟨_,_,_,rfl,by rw [u2,r2]; exact PP.xb_iff⟩
  ·exact ⟨_,_,_,rfl,by rw [u3,r3]; exact PP.xb_iff⟩
 have hw:∀ k,Wf4 g.n (Zau k (Zad g)):=Zqm Znk
 have lo:(rho g none [] 0 w0 MM).base<=ws.heap.size:=hb.size
 have down:∀ k j,j < 4->PP.xb g k j=false->Zem g.n (Zau (k + 1) (Zad g)) < Zem g.n (Zau k (Zad g)):=fun k j hj h=>Zx7 (Zql (hw k)) hj (fun q=>by rw [PP.xb_iff.2 q] at h; cases h)
 have stay:∀ k,PP.xb g k 0=true->PP.xb g k 1=true->PP.xb g k 2=true->PP.xb g k 3=true->Zto (Zad g)=Zbr (Zau k (Zad g)):=fun k h0 h1 h2 h3=>by
  have hst:Zbr (Zau k (Zad g))=Zau k (Zad g):=Yrf (Zpj Zid k) fun j hj=>by
   match j,hj with
   | 0,_=>exact PP.xb_iff.1 h0
   | 1,_=>exact PP.xb_iff.1 h1
   | 2,_=>exact PP.xb_iff.1 h2
   | 3,_=>exact PP.xb_iff.1 h3
  rw [Yg9 hst,hst]
 have fin:∀ {k:Nat} {fl n:Nat} {t:FT} {h:HT} {n':Nat} {m:Mp} {a:Act} {w:World},Here Tryd.prog (rho g none [] 0 w0 (Zau k (Zad g))) NT fl ws.heap.size ws t h n m a w->∀ (st:Stt),st.ft=stEA.ft->st.ht=stEA.ht->n<=1000000->st.fine=true->st.okB t h=true->(∀ e ∈ st.tl,∀ C el fr,(rho g none [] 0 w0 (Zau k (Zad g))).th e.2.2.2 (.cells C el fr)->(rho g none [] 0 w0 MM).th e.2.1 (.cells C el fr))->(st.old.all fun e=>decide (100<=e.1->fl<=e.2) && decide (e.1 < 105))=true->Q .ret a w:=by
  intro k fl n t h n' m a w H st e1 e2 hn hf hok hth hown
  have HE:Here Tryd.prog (rho g none [] 0 w0 MM) NT 100 ws.heap.size ws stEA.ft stEA.ht 105 (fun b=>m (st.σ b)) a w:=by
   rw [<- e1,<- e2]
   exact H.as (s:=st) (fl2:=100) (n2:=105) globs hn rfl hf hok hth hown (by omega)
  refine hQ .ret a w (.inr rfl) ?_
  refine HE.left krs Xam lo fun u w2 hu hs ho hown=>?_
  exact objs4 hu hs ho hown
 refine wpIn_block (Zpd (ι:=Nat) (R:=fun k=>rho g none [] 0 w0 (Zau k (Zad g))) (S:=stS) (flS:=flS) (nS:=nS) (μ:=fun k=>Zem g.n (Zau k (Zad g))) (A:=Xa8 g) globs (fun _ _=>rfl)
  (fun k=>?_) (fun k=>?_) (fun k=>⟨?_⟩) (i0:=0) HL)
 ·cases k with
  | zero=>exact Zfy Zjo (Zge txtP.fsL_ok) Zey (Zha hiA) hnt (by decide) lp n8 k8
  | succ k=>exact Zfy Zjo (Zge txtP.fsL_ok) Zey (Zha (hiB (k + 1))) hnt (by show 100<=109; omega) lp n8 k8
 ·cases k with
  | zero=>exact ⟨by decide,by decide⟩
  | succ k=>exact ⟨by show 109<=111; omega,by show 100<=111; omega⟩
 cases k with
 | zero=>
  obtain ⟨u0,u1,u2,u3⟩:=Yre (g:=g) (Zau 0 (Zad g))
  have on:∀ x0 x1 x2 x3,bodyOk Zjm stB x0 x1 x2 x3=true->Zem g.n (Zau (0 + 1) (Zad g)) < Zem g.n (Zau 0 (Zad g))->∃ t' h' n',Zc6 (Zjm x0 x1 x2 x3) .normal t' h' n'/\n'<=1000000 /\
    ∃ j,Zem g.n (Zau j (Zad g)) < Zem g.n (Zau 0 (Zad g))/\(stS j).fine=true/\(stS j).okB t' h'=true/\(∀ x ∈ (stS j).tl,∀ C el fr,(rho g none [] 0 w0 (Zau 0 (Zad g))).th x.2.2.2 (.cells C el fr)->(rho g none [] 0 w0 (Zau j (Zad g))).th x.2.1 (.cells C el fr))/\((stS j).old.all fun x=>decide (flS j<=x.1->flS 0<=x.2) && decide (x.1 < nS j))=true:=by
   intro x0 x1 x2 x3 hok hlt
   unfold bodyOk at hok
   obtain ⟨g1,hok⟩:=Zac hok (by simp)
   obtain ⟨g2,g3⟩:=Zac hok (by simp)
   refine ⟨_,_,_,Zih g1,Nat.le_of_ble_eq_true g2,1,hlt,fineB,g3,fun e he=>?_,ownB⟩
   have he:e ∈ stB.tl:=he
   simp only [stB,List.mem_cons,List.not_mem_nil,or_false] at he
   rcases he with rfl | rfl | rfl | rfl | rfl | rfl | rfl | rfl
   ·exact Zao rfl
   ·exact Zao rfl
   ·exact Zao rfl
   ·exact Zao rfl
   ·exact Zao (by rw [u0]; rfl)
   ·exact Zao (by rw [u1]; rfl)
   ·exact Zao (by rw [u2]; rfl)
   ·exact Zao (by rw [u3]; rfl)
  show ∃ e t' h' n',Zc6 (Zjm (PP.xb g 0 0) (PP.xb g 0 1) (PP.xb g 0 2) (PP.xb g 0 3)) e t' h' n'/\_
  cases h0:PP.xb g 0 0
  ·obtain ⟨t',h',n',z1,z2,z3⟩:=on false (PP.xb g 0 1) (PP.xb g 0 2) (PP.xb g 0 3) (Xj5 _ _ _) (down 0 0 (by omega) h0)
   exact ⟨.normal,t',h',n',z1,z2,.inl ⟨rfl,z3⟩⟩
  cases h1:PP.xb g 0 1
  ·obtain ⟨t',h',n',z1,z2,z3⟩:=on true false (PP.xb g 0 2) (PP.xb g 0 3) (Xj4 _ _) (down 0 1 (by omega) h1)
   exact ⟨.normal,t',h',n',z1,z2,.inl ⟨rfl,z3⟩⟩
  cases h2:PP.xb g 0 2
  ·obtain ⟨t',h',n',z1,z2,z3⟩:=on true true false (PP.xb g 0 3) (Xj3 _) (down 0 2 (by omega) h2)
   exact ⟨.normal,t',h',n',z1,z2,.inl ⟨rfl,z3⟩⟩
  cases h3:PP.xb g 0 3
  ·obtain ⟨t',h',n',z1,z2,z3⟩:=on true true true false Xj2 (down 0 3 (by omega) h3)
   exact ⟨.normal,t',h',n',z1,z2,.inl ⟨rfl,z3⟩⟩
  have hend:=stay 0 h0 h1 h2 h3
  refine ⟨.ret,_,_,_,Zl4 Xa1,Nat.le_of_ble_eq_true Ysi,.inr ⟨by simp,fun a9 w9 m9 H9=>?_⟩⟩
  refine fin (n':=0) H9 stEA rfl rfl (Nat.le_of_ble_eq_true Ysi) Yuj Xa0 (fun e he=>?_) Yzd
  simp only [stEA,List.mem_cons,List.not_mem_nil,or_false] at he
  have hend:Zto (Zad g)=Zbr (Zad g):=hend
  rcases he with rfl | rfl | rfl | rfl
  ·exact Zao (by rw [u0,<- hend]; rfl)
  ·exact Zao (by rw [u1,<- hend]; rfl)
  ·exact Zao (by rw [u2,<- hend]; rfl)
  ·exact Zao (by rw [u3,<- hend]; rfl)
 | succ k=>
  obtain ⟨u0,u1,u2,u3⟩:=Yrd (g:=g) (Zau (k + 1) (Zad g)) (Zqp (k + 1))
  have on:∀ x0 x1 x2 x3,bodyOk Zjl stC x0 x1 x2 x3=true->Zem g.n (Zau (k + 1 + 1) (Zad g)) < Zem g.n (Zau (k + 1) (Zad g))->∃ t' h' n',Zc6 (Zjl x0 x1 x2 x3) .normal t' h' n'/\n'<=1000000 /\
    ∃ j,Zem g.n (Zau j (Zad g)) < Zem g.n (Zau (k + 1) (Zad g))/\(stS j).fine=true/\(stS j).okB t' h'=true/\(∀ x ∈ (stS j).tl,∀ C el fr,(rho g none [] 0 w0 (Zau (k + 1) (Zad g))).th x.2.2.2 (.cells C el fr)->(rho g none [] 0 w0 (Zau j (Zad g))).th x.2.1 (.cells C el fr))/\((stS j).old.all fun x=>decide (flS j<=x.1->flS (k + 1)<=x.2) && decide (x.1 < nS j))=true:=by
   intro x0 x1 x2 x3 hok hlt
   unfold bodyOk at hok
   obtain ⟨g1,hok⟩:=Zac hok (by simp)
   obtain ⟨g2,g3⟩:=Zac hok (by simp)
   refine ⟨_,_,_,Zih g1,Nat.le_of_ble_eq_true g2,k + 1 + 1,hlt,Xau,g3,fun e he=>?_,Xjk⟩
   have he:e ∈ stC.tl:=he
   simp only [stC,List.mem_cons,List.not_mem_nil,or_false] at he
   rcases he with rfl | rfl | rfl | rfl | rfl | rfl | rfl | rfl
   ·exact Zao rfl
   ·exact Zao rfl
   ·exact Zao rfl
   ·exact Zao rfl
   ·exact Zao (by rw [u0]; rfl)
   ·exact Zao (by rw [u1]; rfl)
   ·exact Zao (by rw [u2]; rfl)
   ·exact Zao (by rw [u3]; rfl)
  have f1:(stS (k + 1)).ft=stB.ft:=by cases k <;> rfl
  have f2:(stS (k + 1)).ht=stB.ht:=by cases k <;> rfl
  rw [f1,f2]
  show ∃ e t' h' n',Zc6 (Zjl (PP.xb g (k + 1) 0) (PP.xb g (k + 1) 1) (PP.xb g (k + 1) 2) (PP.xb g (k + 1) 3)) e t' h' n'/\_
  cases h0:PP.xb g (k + 1) 0
  ·obtain ⟨t',h',n',z1,z2,z3⟩:=on false (PP.xb g (k + 1) 1) (PP.xb g (k + 1) 2) (PP.xb g (k + 1) 3) (Xj1 _ _ _) (down (k + 1) 0 (by omega) h0)
   exact ⟨.normal,t',h',n',z1,z2,.inl ⟨rfl,z3⟩⟩
  cases h1:PP.xb g (k + 1) 1
  ·obtain ⟨t',h',n',z1,z2,z3⟩:=on true false (PP.xb g (k + 1) 2) (PP.xb g (k + 1) 3) (Xj0 _ _) (down (k + 1) 1 (by omega) h1)
   exact ⟨.normal,t',h',n',z1,z2,.inl ⟨rfl,z3⟩⟩
  cases h2:PP.xb g (k + 1) 2
  ·obtain ⟨t',h',n',z1,z2,z3⟩:=on true true false (PP.xb g (k + 1) 3) (Xjz _) (down (k + 1) 2 (by omega) h2)
   exact ⟨.normal,t',h',n',z1,z2,.inl ⟨rfl,z3⟩⟩
  cases h3:PP.xb g (k + 1) 3
  ·obtain ⟨t',h',n',z1,z2,z3⟩:=on true true true false Xjy (down (k + 1) 3 (by omega) h3)
   exact ⟨.normal,t',h',n',z1,z2,.inl ⟨rfl,z3⟩⟩
  have hend:=stay (k + 1) h0 h1 h2 h3
  refine ⟨.ret,_,_,_,Zl4 Xaz,Nat.le_of_ble_eq_true Ysh,.inr ⟨by simp,fun a9 w9 m9 H9=>?_⟩⟩
  refine fin (n':=0) H9 stEB rfl rfl (Nat.le_of_ble_eq_true Ysh) Yui Xay (fun e he=>?_) Yzc
  simp only [stEB,List.mem_cons,List.not_mem_nil,or_false] at he
  rcases he with rfl | rfl | rfl | rfl
  ·exact Zao (by rw [u0,<- hend]; rfl)
  ·exact Zao (by rw [u1,<- hend]; rfl)
  ·exact Zao (by rw [u2,<- hend]; rfl)
  ·exact Zao (by rw [u3,<- hend]; rfl)
end PR
end ToldP
end Go.Proofs.YthcnhbclagegeaaDoor
