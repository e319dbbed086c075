/-
  The functions that some laws reach, but for those that are told, in the evaluator's own form, and that this is what the program's text becomes. Conditions: none; these are closed facts.
-/
import Derived.Test.YthcnhbclagegeaaGreatDoorMw
import Derived.Test.YthcnhbclagegeaaGreatDoorProg
import Derived.Test.YthcnhbclagegeaaGreatDoorMf
namespace Go.Proofs.YthcnhbclagegeaaGreatDoor.txtB
open Go.Rn Go.Proofs.YthcnhbclagegeaaGreatDoor.txtP
def Yuo:RF:=.f 1 (.sq (.rg [Q s2 (.al (.cons (i6 0) (.cons .ns (.cons .ns (.cons .ns (.cons .ns (.cons .ns (.cons .ns (.cons .ns .nil)))))))))]) (.sq (.rg [Q s6 (.bd (.cons (i6 0) (.cons (i6 0) (.cons (i6 0) (.cons (i6 0) (.cons (i6 0) (.cons (.b false) .nil)))))) [(1,1,(k6 2))]),Q s7 (.bd (.cons (i6 0) (.cons (i6 0) (.cons (i6 0) (.cons (i6 0) (.cons (i6 0) (.cons (.b false) .nil)))))) [(1,1,(k6 2)),(3,1,(k6 1))]),Q s8 (.bs (.cons (i6 0) (.cons (i6 0) (.cons (i6 0) (.cons (i6 0) (.cons (i6 0) (.cons (.b false) (.cons (i6 0) (.cons (i6 0) (.cons (i6 0) (.cons (i6 0) (.cons (i6 0) (.cons (.b false) .nil)))))))))))) 2 [(0,6,t6),(6,6,t7)]),Q s9 (.bs (.cons (i6 0) (.cons (i6 0) .nil)) 2 [(0,1,(.c (.i .i64 (.negSucc 0)))),(1,1,(.c (.i .i64 (.negSucc 0))))]),Q s10 (.bs (.cons (i6 0) .nil) 1 [(0,1,(k6 0))]),Q s11 (.bs (.cons (i6 0) .nil) 1 [(0,1,(k6 1))]),Q s12 (.bs (.cons .ns (.cons .ns .nil)) 2 [(0,1,t10),(1,1,t11)]),Q s13 (.bd (.cons (i6 0) (.cons .ns (.cons .ns (.cons .ns (.cons .ns (.cons .ns (.cons .ns (.cons .ns .nil)))))))) [(0,1,(k6 2)),(1,1,t8),(2,1,t9),(3,1,t12)]),Q s3 (.al (.cons (i6 0) (.cons .ns (.cons .ns (.cons .ns (.cons .ns (.cons .ns (.cons .ns (.cons .ns .nil))))))))),Z (.st 8 t3 t13)]) (.sq (.sq (.rg [Q s4 (.mv (k6 0))]) (.bl 0 (.lp (.sq (.sq (.rg [M s14 t4,Q s15 (.bn .lss t14 (k6 2))]) (.cd t15 .sk (.ex 0))) (.sq (.bl 1 (.sq (.rg [Q s18 (.fa 1 t3),Q s19 (L t18),Q s20 (.ln false t19),M s5 t20]) (.sq (.dr [Q s21 (.fa 1 t3),Q s22 (L t21),M s23 t4,Q s24 (.bn .add (k6 1) t23),M s25 t4,Q s26 (.bd (.cons (i6 0) (.cons (i6 0) (.cons (i6 0) (.cons (i6 0) (.cons (i6 0) (.cons (.b false) .nil)))))) [(0,1,t24),(1,1,(k6 2)),(3,1,t25),(4,1,(k6 1))]),Q s27 (.bs (.cons (i6 0) (.cons (i6 0) (.cons (i6 0) (.cons (i6 0) (.cons (i6 0) (.cons (.b false) .nil)))))) 1 [(0,6,t26)]),.q (.d s28) .no .ef (.ap 6 t22 t27),Q s29 (.fa 2 t3),.q (.d s30) .no (.ck 0 1) (L t29),Q s31 (.bs (.cons (i6 0) .nil) 1 [(0,1,(.c (.i .i64 (.negSucc 0))))]),.q (.d s32) .no .ef (.ap 1 t30 t31),Q s33 (.fa 1 t3),.q .no .no .ef (.st 1 t33 t28),Q s34 (.fa 2 t3),.q .no .no .ef (.st 1 t34 t32)]) (.sq (.sq (.rg [M s35 t0,Q s36 (.bn .gtr t35 (k6 0))]) (.cd t36 (.dr [Q s37 (.fa 1 t3),Q s38 (L t37),M s39 t4,Q s40 (.bn .add (k6 1) t39),M s41 t0,Q s42 (.bd (.cons (i6 0) (.cons (i6 0) (.cons (i6 0) (.cons (i6 0) (.cons (i6 0) (.cons (.b false) .nil)))))) [(0,1,t40),(1,1,(k6 3)),(2,1,t41)]),Q s43 (.bs (.cons (i6 0) (.cons (i6 0) (.cons (i6 0) (.cons (i6 0) (.cons (i6 0) (.cons (.b false) .nil)))))) 1 [(0,6,t42)]),.q (.d s44) .no .ef (.ap 6 t38 t43),Q s45 (.fa 2 t3),.q (.d s46) .no (.ck 0 1) (L t45),Q s47 (.bs (.cons (i6 0) .nil) 1 [(0,1,(.c (.i .i64 (.negSucc 0))))]),.q (.d s48) .no .ef (.ap 1 t46 t47),Q s49 (.fa 1 t3),.q .no .no .ef (.st 1 t49 t44),Q s50 (.fa 2 t3),.q .no .no .ef (.st 1 t50 t48)]) .sk)) (.sq (.dr [Q s51 (.fa 1 t3),Q s52 (L t51),M s53 t4,Q s54 (.bn .add (k6 1) t53),M s55 t4,Q s56 (.bn .sub (k6 1) t55),Q s57 (.bd (.cons (i6 0) (.cons (i6 0) (.cons (i6 0) (.cons (i6 0) (.cons (i6 0) (.cons (.b false) .nil)))))) [(0,1,t54),(1,1,(k6 1)),(3,1,t56)]),Q s58 (.bs (.cons (i6 0) (.cons (i6 0) (.cons (i6 0) (.cons (i6 0) (.cons (i6 0) (.cons (.b false) .nil)))))) 1 [(0,6,t57)]),.q (.d s59) .no .ef (.ap 6 t52 t58),Q s60 (.fa 2 t3),.q (.d s61) .no (.ck 0 1) (L t60),M s62 t4,Q s63 (.bn .sub (k6 1) t62),Q s64 (.bs (.cons (i6 0) .nil) 1 [(0,1,t63)]),.q (.d s65) .no .ef (.ap 1 t61 t64),Q s66 (.fa 1 t3),.q .no .no .ef (.st 1 t66 t59),Q s67 (.fa 2 t3),.q .no .no .ef (.st 1 t67 t65)]) (.dr [Q s68 (.fa 3 t3),.q (.d s69) .no (.ck 0 1) (L t68),M s70 t4,Q s71 (.fa 3 t3),Q s72 (L t71),M s73 t4,Q s74 (.ia 1 t72 t73),Q s75 (L t74),M s76 t5,Q s77 (.bs (.cons (i6 0) .nil) 1 [(0,1,t76)]),.q (.d s78) .no .ef (.ap 1 t75 t77),Q s79 (.ia 1 t69 t70),.q .no .no .ef (.st 1 t79 t78)])))))) (.rg [M s16 t4,Q s17 (.bn .add t16 (k6 1)),M s4 t17])))))) (.sq (.rg [Q s80 (.ld true 8 t3),Z (.st 8 t2 t80)]) .rt)))) [.c s2 true 8]
theorem Yft:Zas Tryz.prog 45=some Yuo:=by kernel_rfl
def fsL:List (Nat×RF):=[(45,Yuo)]
theorem fsL_ok:∀ e∈fsL,Zas Tryz.prog e.1=some e.2:=by
 unfold fsL
 refine List.forall_mem_cons.2 ⟨Yft,?_⟩
 exact fun _ h=>(by cases h)
end Go.Proofs.YthcnhbclagegeaaGreatDoor.txtB
namespace Go.Proofs.YthcnhbclagegeaaGreatDoor
open Go.RowKit RelA
namespace RelA
def Zda (E:List Ev) (R C0 C1:List Int) (ea:Option Addr) (ec:Nat) (ra:Option Addr) (rc:Nat) (ca:Option Addr) (cc:Nat) (a0:Option Addr) (c0:Nat) (a1:Option Addr) (c1:Nat):Gr where
 locs:=2
 ea:=ea
 E:=E
 ec:=ec
 ra:=ra
 R:=R
 rc:=rc
 ca:=ca
 C:=[⟨a0,C0,c0⟩,⟨a1,C1,c1⟩]
 cc:=cc
 ma:=none
 Rmw:=[]
 mc:=0
 da:=none
 Data:=[]
 dc:=0
 ta:=none
 Ctrl:=[]
 tc:=0
 ia:=none
 CtrlI:=[]
 ic:=0
def bE0:List Ev:=[⟨0,2,0,0,0,false⟩,⟨0,2,0,1,0,false⟩,⟨1,2,0,0,1,false⟩,⟨1,1,0,1,0,false⟩,⟨2,2,0,1,1,false⟩,⟨2,1,0,0,0,false⟩]
def bR0:List Int:=[-1,-1,-1,1,-1,0]
def bE3:List Ev:=[⟨0,2,0,0,0,false⟩,⟨0,2,0,1,0,false⟩,⟨1,2,0,0,1,false⟩,⟨1,3,3,0,0,false⟩,⟨1,1,0,1,0,false⟩,⟨2,2,0,1,1,false⟩,⟨2,3,3,0,0,false⟩,⟨2,1,0,0,0,false⟩]
def bR3:List Int:=[-1,-1,-1,-1,1,-1,-1,0]
def bE4:List Ev:=[⟨0,2,0,0,0,false⟩,⟨0,2,0,1,0,false⟩,⟨1,2,0,0,1,false⟩,⟨1,3,4,0,0,false⟩,⟨1,1,0,1,0,false⟩,⟨2,2,0,1,1,false⟩,⟨2,3,4,0,0,false⟩,⟨2,1,0,0,0,false⟩]
def bR4:List Int:=[-1,-1,-1,-1,1,-1,-1,0]
end RelA
namespace Buf
open Go.Rn
variable {P:Program}
def ρ0:Rho:=Rho.of fun _=>0
def ys0:Ys:=fun _ _ _=>none
theorem Ykb:YsOk ρ0 ys0:=fun _ _ _ _ h=>by cases h
theorem Ya4:Zpo P ρ0 (fun _ _=>none):=fun _ _ _ h=>by cases h
def vO:SR->RV | .ok v _ _=>v | _=>.un
def hO:SR->HT | .ok _ h _=>h | _=>he
def nO:SR->Nat | .ok _ _ n=>n | _=>0
def Yh5:SR->Bool | .ok _ _ _=>true | _=>false
theorem Yqe {r:SR} (h:Yh5 r=true):r=.ok (vO r) (hO r) (nO r):=by cases r<;>first | rfl | cases h
theorem Zmy {fs:Nat->Option RF} (hfs:∀ f r,fs f=some r->Zas P f=some r) (hgl:P.globals.size<=100) {deep f:Nat} {c:RV} {w:World}
  (e:Yh5 (Zcc ys0 fs (fun _ _=>none) (kcL []) deep f c 100 he 100)=true) {vs:List Value} (hd:∀ m,Zbg ρ0 m c vs) (hf:f<16777216:=by decide) :
  Calls P f vs.toArray w fun e w'=>∃ u m',e=.returned u/\Sim P ρ0 m' 100 (hO (Zcc ys0 fs (fun _ _=>none) (kcL []) deep f c 100 he 100)) w'/\den ρ0 m' (vO (Zcc ys0 fs (fun _ _=>none) (kcL []) deep f c 100 he 100)) u/\Below w.heap.size w w':=by
 have hx:=Yqe e
 obtain⟨_,hc1,_⟩:=Zfy (g:=100) Ykb fs hfs (Ya4 (P:=P)) (Zbr (l:=[]) (fun _ h=>by cases h)) deep f c 100 he 100 _ _ _ hx (Nat.le_refl _) (Nat.le_refl _)
 obtain⟨_,hc⟩:=hc1 hf
 refine(hc (fun b=>if b<P.globals.size then some (b,0,0) else none) w vs ⟨fun b c z hb=>(by rw[Zep] at hb;cases hb),fun b b' c z c' z' B O Z O' Z' hb=>(by rw[Zep] at hb;cases hb),trivial,fun b c z B O Z _ hb=>(by rw[Zep] at hb;cases hb)⟩ (fun k hk=>⟨0,if_pos hk⟩) (hd _) (fun b h1 _=>if_neg (by omega))).mono ?_
 rintro e w' ⟨u,m',rfl,T,hu⟩
 exact⟨u,m',rfl,T.sim,hu,⟨T.keep.os,T.keep.tape,T.keep.output,T.keep.size,fun k hk=>T.keep.block k hk (fun b c z O Z _ hb=>(by rw[Zep] at hb;cases hb))⟩⟩
def chE:List Ev->RV
 | []=>.nil
 | e::r=>.cons (.i .i64 e.th) (.cons (.i .i64 e.kd) (.cons (.i .i64 e.md) (.cons (.i .i64 e.lc) (.cons (.i .i64 e.vl) (.cons (.b e.ex) (chE r))))))
def chN:List Int->RV
 | []=>.nil
 | x::r=>.cons (.i .i64 x) (chN r)
theorem Zwt {ρ:Rho} {m:Mp}:∀ {E:List Ev} {cs:List Value},Zbg ρ m (chE E) cs->∀ q,q<E.length->cs[q*6]?=some (.int .i64 (E.getD q Ev.zero).th)/\cs[q*6+1]?=some (.int .i64 (E.getD q Ev.zero).kd)/\cs[q*6+2]?=some (.int .i64 (E.getD q Ev.zero).md)/\cs[q*6+3]?=some (.int .i64 (E.getD q Ev.zero).lc)/\cs[q*6+4]?=some (.int .i64 (E.getD q Ev.zero).vl)/\cs[q*6+5]?=some (.bool (E.getD q Ev.zero).ex)
 | [],_,_,q,h=>by cases h
 | e::r,cs,hd,q,hq=>by
  obtain⟨x0,t0,rfl,d0,h0⟩:=denC_cons.1 hd
  obtain⟨x1,t1,rfl,d1,h1⟩:=denC_cons.1 h0
  obtain⟨x2,t2,rfl,d2,h2⟩:=denC_cons.1 h1
  obtain⟨x3,t3,rfl,d3,h3⟩:=denC_cons.1 h2
  obtain⟨x4,t4,rfl,d4,h4⟩:=denC_cons.1 h3
  obtain⟨x5,t5,rfl,d5,h5⟩:=denC_cons.1 h4
  clear hd h0 h1 h2 h3 h4
  cases d0
  cases d1
  cases d2
  cases d3
  cases d4
  cases d5
  cases q with
  | zero=>exact⟨rfl,rfl,rfl,rfl,rfl,rfl⟩
  | succ q=>
   have hq':q<r.length:=Nat.lt_of_succ_lt_succ (show q.succ<r.length.succ from hq)
   have ih:=Zwt h5 q hq'
   rw[show(q+1)*6=q*6+6 by omega]
   exact ih
theorem Zwr {ρ:Rho} {m:Mp}:∀ {R:List Int} {cs:List Value},Zbg ρ m (chN R) cs->∀ q,q<R.length->cs[q]?=some (.int .i64 (R.getD q 0))
 | [],_,_,q,h=>by cases h
 | e::r,cs,hd,q,hq=>by
  obtain⟨x0,t0,rfl,d0,h0⟩:=denC_cons.1 hd
  cases d0
  cases q with
  | zero=>rfl
  | succ q=>exact Zwr h0 q (Nat.lt_of_succ_lt_succ (show q.succ<r.length.succ from hq))
theorem Yln (E:List Ev):chE E≠.un:=by cases E<;>exact fun h=>by cases h
theorem Ylm (E:List Int):chN E≠.un:=by cases E<;>exact fun h=>by cases h
section
variable {ρ:Rho} {m:Mp} {g:Nat} {h:HT} {w:World} {b B O Z:Nat}
theorem Zuy {C:Array Value} {el:TypeId} {fr:Nat×Nat} (hh:w.heap[B]?=some (.cells C el fr)):B<w.heap.size:=by
 rcases Nat.lt_or_ge B w.heap.size with q | q
 ·exact q
 ·rw[Array.getElem?_eq_none q] at hh
  cases hh
theorem Ylh (s:Sim P ρ m g h w) {E:List Ev} (e:Zah h 6 b 0 E.length=chE E) (h0:0<E.length) (hm:m b=some (B,O,Z)):EsIn w (some ⟨B,O+0,none⟩) E:=by
 obtain⟨c,z,B',O',Z',C,el,fr,cs,_,g2,g3,_,_,_,g7,_,g9⟩:=Zbc s e (Yln E) h0
 rw[hm] at g2
 cases g2
 refine .inr ⟨B,O+0,rfl,Zuy g3,fun q hq=>?_⟩
 obtain⟨k0,k1,k2,k3,k4,k5⟩:=Zwt g7 q hq
 exact⟨by rw[Zb7 g3];exact g9 _ _ k0,by rw[Zb7 g3];exact g9 _ _ k1,by rw[Zb7 g3];exact g9 _ _ k2,by rw[Zb7 g3];exact g9 _ _ k3,by rw[Zb7 g3];exact g9 _ _ k4,by rw[Zb7 g3];exact g9 _ _ k5⟩
theorem Zuw (s:Sim P ρ m g h w) {R:List Int} (e:Zah h 1 b 0 R.length=chN R) (h0:0<R.length) (hm:m b=some (B,O,Z)):NsIn w (some ⟨B,O+0,none⟩) R:=by
 obtain⟨c,z,B',O',Z',C,el,fr,cs,_,g2,g3,_,_,_,g7,_,g9⟩:=Zbc s e (Ylm R) h0
 rw[hm] at g2
 cases g2
 exact .inr ⟨B,O+0,rfl,Zuy g3,fun q hq=>by rw[Zb7 g3];exact g9 _ _ (Zwr g7 q hq)⟩
end
theorem Zve {P:Program} {h:HT} {m:Mp} {w:World} {u:Value} {be br bc b0 b1 fe fr f0 f1:Nat} {E:List Ev} {R:List Int} {x0 y0 x1 y1:Int} (s:Sim P ρ0 m 100 h w) (hE0:0<E.length) (hE40:E.length<=40) (hR0:0<R.length) (hR60:R.length<=60)
  (hu:den ρ0 m (.agg (.cons (.i .i64 2) (.cons (.su be 0 E.length fe) (.cons (.su br 0 R.length fr) (.cons (.sl bc 0 2 2) (.cons .ns (.cons .ns (.cons .ns (.cons .ns .nil))))))))) u)
  (hE:Zah h 6 be 0 E.length=chE E) (hR:Zah h 1 br 0 R.length=chN R) (hC:Zah h 1 bc 0 2=.cons (.su b0 0 2 f0) (.cons (.su b1 0 2 f1) .nil)) (h0:Zah h 1 b0 0 2=chN [x0,y0]) (h1:Zah h 1 b1 0 2=chN [x1,y1]) :
  ∃ ea ec ra rc ca cc a0 c0 a1 c1,u=(Zda E R [x0,y0] [x1,y1] ea ec ra rc ca cc a0 c0 a1 c1).v/\GIn w (Zda E R [x0,y0] [x1,y1] ea ec ra rc ca cc a0 c0 a1 c1):=by
 obtain⟨cs,hd,_,rfl⟩:=hu
 obtain⟨v0,t0,rfl,d0,hd⟩:=denC_cons.1 hd
 obtain⟨v1,t1,rfl,d1,hd⟩:=denC_cons.1 hd
 obtain⟨v2,t2,rfl,d2,hd⟩:=denC_cons.1 hd
 obtain⟨v3,t3,rfl,d3,hd⟩:=denC_cons.1 hd
 obtain⟨v4,t4,rfl,d4,hd⟩:=denC_cons.1 hd
 obtain⟨v5,t5,rfl,d5,hd⟩:=denC_cons.1 hd
 obtain⟨v6,t6,rfl,d6,hd⟩:=denC_cons.1 hd
 obtain⟨v7,t7,rfl,d7,hd⟩:=denC_cons.1 hd
 obtain rfl:=denC_nil.1 hd
 cases d0
 cases d4
 cases d5
 cases d6
 cases d7
 obtain⟨Be,Oe,Ze,ec,me,le,_,rfl⟩:=d1
 obtain⟨Br,Or,Zr,rc,mr,lr,_,rfl⟩:=d2
 obtain⟨Bc,Oc,Zc,mc,lc,rfl⟩:=d3
 obtain⟨c,z,B',O',Z',C,el,fr,cs,_,g2,g3,_,_,_,g7,_,g9⟩:=Zbc s hC (fun h=>by cases h) (by decide)
 rw[mc] at g2
 cases g2
 obtain⟨w0,s0,rfl,k0,g7⟩:=denC_cons.1 g7
 obtain⟨w1,s1,rfl,k1,g7⟩:=denC_cons.1 g7
 obtain⟨B0,O0,Z0,c0,m0,l0,_,rfl⟩:=k0
 obtain⟨B1,O1,Z1,c1,m1,l1,_,rfl⟩:=k1
 have q0:=g9 0 _ rfl
 have q1:=g9 1 _ rfl
 have n0:=Zuw (R:=[x0,y0]) s h0 (Nat.zero_lt_succ _) m0
 have n1:=Zuw (R:=[x1,y1]) s h1 (Nat.zero_lt_succ _) m1
 refine⟨some ⟨Be,Oe+0,none⟩,ec,some ⟨Br,Or+0,none⟩,rc,some ⟨Bc,Oc+0,none⟩,2,some ⟨B0,O0+0,none⟩,c0,some ⟨B1,O1+0,none⟩,c1,rfl,?_⟩
 refine⟨Ylh s hE hE0 me,Zuw s hR hR0 mr,.inr ⟨Bc,Oc+0,rfl,Zuy g3,fun q hq=>?_⟩,.inl ⟨rfl,rfl,rfl⟩,.inl ⟨rfl,rfl,rfl⟩,.inl ⟨rfl,rfl,rfl⟩,.inl ⟨rfl,rfl,rfl⟩,hE40,(by show E.length<=ec;omega),hR60,by simp[Zda],fun q hq=>?_,by simp[Zda],by simp[Zda],by simp[Zda],by simp[Zda],by simp[Zda]⟩
 ·have hq2:q<2:=hq
  have hc:q=0∨q=1:=by omega
  rcases hc with rfl | rfl
  ·exact⟨by rw[Zb7 g3];exact q0,n0,by show 2<=c0;omega⟩
  ·exact⟨by rw[Zb7 g3];exact q1,n1,by show 2<=c1;omega⟩
 ·have hq2:q<2:=hq
  have hc:q=0∨q=1:=by omega
  rcases hc with rfl | rfl
  ·show(2:Nat)<=50
   decide
  ·show(2:Nat)<=50
   decide
noncomputable def rB (k:Int):SR:=Zcc ys0 (inL txtB.fsL) (fun _ _=>none) (kcL []) 60 45 (.cons (.i .i64 k) .nil) 100 he 100
theorem globs:Tryz.prog.globals.size<=100:=of_decide_eq_true (by kernel_rfl)
theorem ok0:Yh5 (rB 0)=true:=by kernel_rfl
theorem v0:vO (rB 0)=.agg (.cons (.i .i64 2) (.cons (.su 122 0 bE0.length 6) (.cons (.su 124 0 bR0.length 1) (.cons (.sl 105 0 2 2) (.cons .ns (.cons .ns (.cons .ns (.cons .ns .nil)))))))):=by kernel_rfl
theorem rE0:Zah (hO (rB 0)) 6 122 0 bE0.length=chE bE0:=by kernel_rfl
theorem rR0:Zah (hO (rB 0)) 1 124 0 bR0.length=chN bR0:=by kernel_rfl
theorem rC0:Zah (hO (rB 0)) 1 105 0 2=.cons (.su 116 0 2 1) (.cons (.su 126 0 2 1) .nil):=by kernel_rfl
theorem rx0:Zah (hO (rB 0)) 1 116 0 2=chN [0,2]:=by kernel_rfl
theorem ry0:Zah (hO (rB 0)) 1 126 0 2=chN [1,4]:=by kernel_rfl
theorem buf0 (w:World):Calls Tryz.prog 45 #[.int .i64 0] w fun e w'=>∃ ea ec ra rc ca cc a0 c0 a1 c1,e=.returned (Zda bE0 bR0 [0,2] [1,4] ea ec ra rc ca cc a0 c0 a1 c1).v/\GIn w' (Zda bE0 bR0 [0,2] [1,4] ea ec ra rc ca cc a0 c0 a1 c1)/\Below w.heap.size w w':=by
 refine(Zmy (Zbk txtB.fsL_ok) globs (c:=.cons (.i .i64 0) .nil) ok0 (vs:=[.int .i64 0]) (fun m=>denC_cons.2 ⟨_,_,rfl,rfl,denC_nil.2 rfl⟩)).mono ?_
 rintro e w' ⟨u,m',rfl,s,hu,hb⟩
 have hu':den ρ0 m' (vO (rB 0)) u:=hu
 rw[v0] at hu'
 obtain⟨ea,ec,ra,rc,ca,cc,a0,c0,a1,c1,h1,h2⟩:=Zve (h:=hO (rB 0)) s (by decide) (by decide) (by decide) (by decide) hu' rE0 rR0 rC0 rx0 ry0
 exact⟨ea,ec,ra,rc,ca,cc,a0,c0,a1,c1,by rw[h1],h2,hb⟩
theorem ok3:Yh5 (rB 3)=true:=by kernel_rfl
theorem v3:vO (rB 3)=.agg (.cons (.i .i64 2) (.cons (.su 130 0 bE3.length 6) (.cons (.su 132 0 bR3.length 1) (.cons (.sl 105 0 2 2) (.cons .ns (.cons .ns (.cons .ns (.cons .ns .nil)))))))):=by kernel_rfl
theorem rE3:Zah (hO (rB 3)) 6 130 0 bE3.length=chE bE3:=by kernel_rfl
theorem rR3:Zah (hO (rB 3)) 1 132 0 bR3.length=chN bR3:=by kernel_rfl
theorem rC3:Zah (hO (rB 3)) 1 105 0 2=.cons (.su 120 0 2 1) (.cons (.su 134 0 2 1) .nil):=by kernel_rfl
theorem rx3:Zah (hO (rB 3)) 1 120 0 2=chN [0,2]:=by kernel_rfl
theorem ry3:Zah (hO (rB 3)) 1 134 0 2=chN [1,5]:=by kernel_rfl
theorem buf3 (w:World):Calls Tryz.prog 45 #[.int .i64 3] w fun e w'=>∃ ea ec ra rc ca cc a0 c0 a1 c1,e=.returned (Zda bE3 bR3 [0,2] [1,5] ea ec ra rc ca cc a0 c0 a1 c1).v/\GIn w' (Zda bE3 bR3 [0,2] [1,5] ea ec ra rc ca cc a0 c0 a1 c1)/\Below w.heap.size w w':=by
 refine(Zmy (Zbk txtB.fsL_ok) globs (c:=.cons (.i .i64 3) .nil) ok3 (vs:=[.int .i64 3]) (fun m=>denC_cons.2 ⟨_,_,rfl,rfl,denC_nil.2 rfl⟩)).mono ?_
 rintro e w' ⟨u,m',rfl,s,hu,hb⟩
 have hu':den ρ0 m' (vO (rB 3)) u:=hu
 rw[v3] at hu'
 obtain⟨ea,ec,ra,rc,ca,cc,a0,c0,a1,c1,h1,h2⟩:=Zve (h:=hO (rB 3)) s (by decide) (by decide) (by decide) (by decide) hu' rE3 rR3 rC3 rx3 ry3
 exact⟨ea,ec,ra,rc,ca,cc,a0,c0,a1,c1,by rw[h1],h2,hb⟩
theorem ok4:Yh5 (rB 4)=true:=by kernel_rfl
theorem v4:vO (rB 4)=.agg (.cons (.i .i64 2) (.cons (.su 130 0 bE4.length 6) (.cons (.su 132 0 bR4.length 1) (.cons (.sl 105 0 2 2) (.cons .ns (.cons .ns (.cons .ns (.cons .ns .nil)))))))):=by kernel_rfl
theorem rE4:Zah (hO (rB 4)) 6 130 0 bE4.length=chE bE4:=by kernel_rfl
theorem rR4:Zah (hO (rB 4)) 1 132 0 bR4.length=chN bR4:=by kernel_rfl
theorem rC4:Zah (hO (rB 4)) 1 105 0 2=.cons (.su 120 0 2 1) (.cons (.su 134 0 2 1) .nil):=by kernel_rfl
theorem rx4:Zah (hO (rB 4)) 1 120 0 2=chN [0,2]:=by kernel_rfl
theorem ry4:Zah (hO (rB 4)) 1 134 0 2=chN [1,5]:=by kernel_rfl
theorem buf4 (w:World):Calls Tryz.prog 45 #[.int .i64 4] w fun e w'=>∃ ea ec ra rc ca cc a0 c0 a1 c1,e=.returned (Zda bE4 bR4 [0,2] [1,5] ea ec ra rc ca cc a0 c0 a1 c1).v/\GIn w' (Zda bE4 bR4 [0,2] [1,5] ea ec ra rc ca cc a0 c0 a1 c1)/\Below w.heap.size w w':=by
 refine(Zmy (Zbk txtB.fsL_ok) globs (c:=.cons (.i .i64 4) .nil) ok4 (vs:=[.int .i64 4]) (fun m=>denC_cons.2 ⟨_,_,rfl,rfl,denC_nil.2 rfl⟩)).mono ?_
 rintro e w' ⟨u,m',rfl,s,hu,hb⟩
 have hu':den ρ0 m' (vO (rB 4)) u:=hu
 rw[v4] at hu'
 obtain⟨ea,ec,ra,rc,ca,cc,a0,c0,a1,c1,h1,h2⟩:=Zve (h:=hO (rB 4)) s (by decide) (by decide) (by decide) (by decide) hu' rE4 rR4 rC4 rx4 ry4
 exact⟨ea,ec,ra,rc,ca,cc,a0,c0,a1,c1,by rw[h1],h2,hb⟩
end Buf
end Go.Proofs.YthcnhbclagegeaaGreatDoor
