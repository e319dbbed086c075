/-
  Consistent of both sides of a graph that may be is alike, exegesislaw20.all is true of it, and power.Consistent is false of a graph that may not be. Conditions: the graph in memory, the table of bits in its variable.
-/
import Derived.Test.YthcnhbclagegeaaGreatDoorMza
import Derived.Test.YthcnhbclagegeaaGreatDoorMt
import Derived.Test.YthcnhbclagegeaaGreatDoorMp
set_option maxRecDepth 100000
set_option maxHeartbeats 8000000
namespace Go.Proofs.YthcnhbclagegeaaGreatDoor
open Go.RowKit RelA
section
attribute [local go_sem ↓] Go.wp_at_zero Go.wp_at_succ
attribute [local irreducible] RelA.rcells
theorem Ya5 {n:Nat} {M:Nat->Nat->Bool} (h:Zie n M=true) (i j:Nat) (hi:i<n) (hj:j<n):M i j=false:=by
 unfold Zie at h
 have h1:(Zay n M).length=0:=by simpa using h
 have h2:Zay n M=[]:=List.eq_nil_of_length_eq_zero h1
 cases hM:M i j with
 | false=>rfl
 | true=>
  have h3:(i,j)∈Zay n M:=by
   unfold Zay Zjb Zi5
   simp only[List.mem_flatMap,List.mem_range,List.mem_map,List.mem_filter]
   exact⟨i,hi,j,⟨hj,hM⟩,rfl⟩
  rw[h2] at h3
  cases h3
theorem Zs5 (b n:Nat) (M:Nat->Nat->Bool) (w:World) (hb:Rr w b n M) (hn:n<=40) (h0:∀ i j,i<n->j<n->M i j=false) :
  Calls Tryz.prog 85 #[.pointer (some ⟨b,0,none⟩)] w fun e w'=>e=.returned (.slice none 0 0)/\Below w.heap.size w w':=by
 have HB:=jh hb.at_
 have H0:=jh h0
 clear hb h0
 go_enter Tryz.func85,Tryz.ntmps85
 go_wp2_with fail
 go_loopw [3,4] (fun v x wr=>∃ k:Nat,k<=n/\x=.int .i64 k/\v=.slice none 0 0/\Below w.heap.size w wr) (fun _ x _=>n-(intOf x).toNat)
 case atStart=>exact⟨0,Nat.zero_le _,rfl,rfl,Below.refl _ _⟩
 case round=>
  obtain⟨k,hk,rfl,rfl,hbe⟩:=hrel
  have hr0:=(HB.out.below hbe HB.out.lt).c0
  by_cases hlt:k<n
  ·obtain⟨wo,rfl⟩:∃ wo:World,wo=wr:=⟨_,rfl⟩
   have hdk:decide ((k:Int)<(n:Int))=true:=by simp;omega
   have hki:(k:Int)<(n:Int):=by omega
   have hk40:(k:Int)<40:=by omega
   go_wp2_with fail
   clear hr0
   go_loopw [3,5] (fun v x wi=>∃ q:Nat,q<=n/\x=.int .i64 q/\v=.slice none 0 0/\Below w.heap.size w wi) (fun _ x _=>n-(intOf x).toNat)
   case atStart=>exact⟨0,Nat.zero_le _,rfl,rfl,hbe⟩
   case round=>
    obtain⟨q,hq,rfl,rfl,hbi⟩:=hrel
    have hsz:=hbi.size
    have hr0:=(HB.out.below hbi HB.out.lt).c0
    by_cases hql:q<n
    ·have hdq:decide ((q:Int)<(n:Int))=true:=by simp;omega
     have hqi:(q:Int)<(n:Int):=by omega
     have hq40:(q:Int)<40:=by omega
     have hm1:=(HB.out.below hbi HB.out.lt).ci k q (by omega) (by omega)
     rw[H0.out k q hlt hql] at hm1
     go_wp2_with fail
     go_roundw
     case rel=>exact⟨q+1,by omega,by go_num,rfl,hbi⟩
     case measure=>simp[intOf];omega
    ·have hqN:q=n:=by omega
     have hdq:decide ((q:Int)<(n:Int))=false:=by simp;omega
     clear hqN
     go_wp2_with fail
     go_roundw
     case rel=>exact⟨k+1,by omega,by go_num,rfl,hbi⟩
     case measure=>simp[intOf];omega
  ·have hkN:k=n:=by omega
   have hdk:decide ((k:Int)<(n:Int))=false:=by simp;omega
   clear hkN
   go_wp2_with fail
   go_ret
   exact⟨rfl,hbe⟩
namespace ToldP
namespace L20
open Go.Rn (Rho RV Mp Tells chV chW Zau kcL Zbr Zcc isB Zt1 Zg3 Zci Ze3 Zck inL Zbk Za8 he denC_cons denC_nil Zkv dsc_cons dsc_nil den Za7)
variable {g:Gr} {w0:World}
theorem Ygq {f:Nat} (x:Bool) (hs:∀ w,Below w0.heap.size w0 w->Calls Tryz.prog f #[g.v] w fun e w'=>e=.returned (.bool x)/\Below w.heap.size w w') :
  ∀ (m:Mp) (w:World) (vs:List Value),(rho g none [] 0 w0 (Zac g)).Old w->Zkv (rho g none [] 0 w0 (Zac g)) m w (.cons gR .nil) vs ->
   Calls Tryz.prog f vs.toArray w (fun e w'=>∃ u:Value,e=.returned u/\Go.Rn.Old w w'/\∀ m',den (rho g none [] 0 w0 (Zac g)) m' (.b x) u):=by
 intro m w vs hw hd
 obtain⟨y,xs,rfl,d1,d2⟩:=dsc_cons hd
 obtain rfl:=dsc_nil d2
 obtain rfl:=Zl8 (m:=m) d1
 refine(hs w (Zgk hw)).mono ?_
 rintro e w' ⟨rfl,hb⟩
 exact⟨_,rfl,Za7 hb,fun _=>rfl⟩
noncomputable def l_g (x:Bool):List (RV×RV):=[(.cons gR .nil,.b x)]
theorem t_g (f:Nat) (hf:Go.Rn.known Tryz.prog f=true) (x:Bool) (hs:∀ w,Below w0.heap.size w0 w->Calls Tryz.prog f #[g.v] w fun e w'=>e=.returned (.bool x)/\Below w.heap.size w w'):Tells Tryz.prog (rho g none [] 0 w0 (Zac g)) (f,1,chV (l_g x)):=Zau hf (by
 intro y hy
 unfold l_g at hy
 simp only[List.mem_cons,List.not_mem_nil,or_false] at hy
 subst hy
 exact Ygq x hs)
noncomputable def hbV:RV:=.fn 48 (.cons (.p 101 0) (.cons (.p 100 0) .nil))
noncomputable def Yoo (x:Bool):List (RV×RV):=[(.cons gR (.cons hbV .nil),.b x)]
theorem Yvs (c:Cx g none [] 0 w0) (x:Bool) (hx:Zie g.n (mx g [] (Zac g) p63)=x):Tells Tryz.prog (rho g none [] 0 w0 (Zac g)) (133,1,chV (Yoo x)):=Zau (by kernel_rfl) (by
 intro y hy
 unfold Yoo at hy
 simp only[List.mem_cons,List.not_mem_nil,or_false] at hy
 subst hy
 intro m w vs hw hd
 obtain⟨y1,xs,rfl,d1,d2⟩:=dsc_cons hd
 obtain⟨y2,xs2,rfl,d3,d4⟩:=dsc_cons d2
 obtain rfl:=dsc_nil d4
 obtain rfl:=Zl8 (m:=m) d1
 refine(Yg4 c y2 w (Zgk hw)).mono ?_
 rintro e w' ⟨rfl,hb⟩
 exact⟨_,rfl,Za7 hb,fun _=>by rw[hx];rfl⟩)
noncomputable def tlc (b1 b2 b3 b4 b5:Bool):List (Nat×Nat×RV):=(128,1,chV (l_g true))::(132,1,chV (Zqc b1 b3 b5))::(136,1,chV (Zu0 b4))::(133,1,chV (Yoo b2))::tl0
theorem Ypm:∀ b1 b2 b3 b4 b5:Bool,Zt1 (Zcc ysE (inL txtP.fsL) (fun _ _=>none) (kcL (tlc b1 b2 b3 b4 b5)) 60 14 (.cons gR .nil) 100 he 100)=some (!b1&&(b2&&(!b3&&(!b4&&!b5)))):=by
 intro b1 b2 b3 b4 b5
 cases b1<;>cases b2<;>cases b3<;>cases b4<;>cases b5<;>kernel_rfl
theorem Zra (c:Cx g none [] 0 w0) (b1 b2 b3 b4 b5:Bool) (h1:b1=true↔Zcz g.n (Zbl (mx g [] (Zac g) p56))) (h2:Zie g.n (mx g [] (Zac g) p63)=b2) (h3:b3=true↔Zcz g.n (Zbl (mx g [] (Zac g) p35))) (h4:b4=true↔Zcz g.n (mx g [] (Zac g) p65)) (h5:b5=true↔Zcz g.n (Zbl (mx g [] (Zac g) p66))) (w:World) (hb:Below w0.heap.size w0 w) :
  Calls Tryz.prog 14 #[g.v] w fun e w'=>e=.returned (.bool (!b1&&(b2&&(!b3&&(!b4&&!b5)))))/\Below w.heap.size w w':=by
 have T1:=t_g (g:=g) (w0:=w0) 128 (by kernel_rfl) true (fun w hb=>(Zwq g w ((in0 c).next hb)).mono fun e w' h=>(by obtain⟨x,rfl,hx,hb⟩:=h;exact⟨by rw[hx.2 c.ck],hb⟩))
 refine(Zci (ρ:=rho g none [] 0 w0 (Zac g)) Zcu (Zbk txtP.fsL_ok) Za8 (kc:=kcL (tlc b1 b2 b3 b4 b5)) (Zbr (List.forall_mem_cons.2 ⟨T1,List.forall_mem_cons.2 ⟨Yet c b1 b3 b5 h1 h3 h5,List.forall_mem_cons.2 ⟨Ykf c b4 h4,List.forall_mem_cons.2 ⟨Yvs c b2 h2,Zf8 c⟩⟩⟩⟩)) globs (w:=w) hb (Ypm b1 b2 b3 b4 b5) (vs:=[g.v]) (fun m=>denC_cons.2 ⟨_,_,rfl,Zg4 m,denC_nil.2 rfl⟩)).mono ?_
 rintro e w' ⟨rfl,o⟩
 exact⟨rfl,o.below⟩
noncomputable def Ynh:List (RV×RV):=[(.cons (.tup (.cons (.mp 2) z58)) .nil,.ns)]
theorem Yvr (c:Cx g none [] 0 w0) (hx:Zie g.n (mx g [] (Zac g) z58)=true):Tells Tryz.prog (rho g none [] 0 w0 (Zac g)) (85,1,chV Ynh):=Zau (by kernel_rfl) (by
 intro y hy
 unfold Ynh at hy
 simp only[List.mem_cons,List.not_mem_nil,or_false] at hy
 subst hy
 intro m w vs hw hd
 obtain⟨y1,xs,rfl,d1,d2⟩:=dsc_cons hd
 obtain rfl:=dsc_nil d2
 obtain⟨b,rfl,hr⟩:=told d1
 refine(Zs5 b g.n _ w hr c.gin.e40 (Ya5 hx)).mono ?_
 rintro e w' ⟨rfl,hb⟩
 exact⟨_,rfl,Za7 hb,fun _=>rfl⟩)
noncomputable def tlr (b1 b3 b4 b5:Bool):List (Nat×Nat×RV):=(7,1,chV (l_g true))::(120,1,chV (Zm9 b1 b3 b5))::(118,1,chV (Zp9 b4))::tl0
theorem Ypl:∀ b1 b3 b4 b5:Bool,Zt1 (Zcc ysE (inL txtP.fsL) (fun _ _=>none) (kcL ((85,1,chV Ynh)::tlr b1 b3 b4 b5)) 60 57 (.cons gR .nil) 100 he 100)=some (!b1&&(!b3&&(!b4&&!b5))):=by
 intro b1 b3 b4 b5
 cases b1<;>cases b3<;>cases b4<;>cases b5<;>kernel_rfl
theorem Ykp:∀ b3 b4 b5:Bool,Zt1 (Zcc ysE (inL txtP.fsL) (fun _ _=>none) (kcL (tlr true b3 b4 b5)) 60 57 (.cons gR .nil) 100 he 100)=some false:=by
 intro b3 b4 b5
 cases b3<;>cases b4<;>cases b5<;>kernel_rfl
theorem Yfd (c:Cx g none [] 0 w0) (b1 b2 b3 b4 b5:Bool) (h1:b1=true↔Zcz g.n (Zbl (mx g [] (Zac g) z53))) (h2:Zie g.n (mx g [] (Zac g) z58)=b2) (h3:b3=true↔Zcz g.n (Zbl (mx g [] (Zac g) z34))) (h4:b4=true↔Zcz g.n (mx g [] (Zac g) z60)) (h5:b5=true↔Zcz g.n (Zbl (mx g [] (Zac g) z61))) (w:World) (hb:Below w0.heap.size w0 w) :
  Calls Tryz.prog 57 #[g.v] w fun e w'=>e=.returned (.bool (!b1&&(b2&&(!b3&&(!b4&&!b5)))))/\Below w.heap.size w w':=by
 have T1:=t_g (g:=g) (w0:=w0) 7 (by kernel_rfl) true (fun w hb=>(Zqj g w ((in0 c).next hb) c.ck).mono fun _ _ h=>h)
 have TR:∀ e∈tlr b1 b3 b4 b5,Tells Tryz.prog (rho g none [] 0 w0 (Zac g)) e:=List.forall_mem_cons.2 ⟨T1,List.forall_mem_cons.2 ⟨Zzb c b1 b3 b5 h1 h3 h5,List.forall_mem_cons.2 ⟨Yep c b4 h4,Zf8 c⟩⟩⟩
 cases b2 with
 | true=>
  refine(Zci (ρ:=rho g none [] 0 w0 (Zac g)) Zcu (Zbk txtP.fsL_ok) Za8 (kc:=kcL ((85,1,chV Ynh)::tlr b1 b3 b4 b5)) (Zbr (List.forall_mem_cons.2 ⟨Yvr c h2,TR⟩)) globs (w:=w) hb (Ypl b1 b3 b4 b5) (vs:=[g.v]) (fun m=>denC_cons.2 ⟨_,_,rfl,Zg4 m,denC_nil.2 rfl⟩)).mono ?_
  rintro e w' ⟨rfl,o⟩
  exact⟨by rw[Bool.true_and],o.below⟩
 | false=>
  cases b1 with
  | true=>
   refine(Zci (ρ:=rho g none [] 0 w0 (Zac g)) Zcu (Zbk txtP.fsL_ok) Za8 (kc:=kcL (tlr true b3 b4 b5)) (Zbr TR) globs (w:=w) hb (Ykp b3 b4 b5) (vs:=[g.v]) (fun m=>denC_cons.2 ⟨_,_,rfl,Zg4 m,denC_nil.2 rfl⟩)).mono ?_
   rintro e w' ⟨rfl,o⟩
   exact⟨rfl,o.below⟩
  | false=>exact(Zs9 c h2 (fun h=>by have:=h1.2 h;cases this) w hb).mono fun e w' q=>⟨by rw[q.1];rfl,q.2⟩
noncomputable def bl (P:Prop):Bool:=@decide P (Classical.propDecidable _)
theorem Zrd {P:Prop}:bl P=true↔P:=by unfold bl;simp
noncomputable def tla (x:Bool):List (Nat×Nat×RV):=(14,1,chV (l_g x))::(57,1,chV (l_g x))::(51,1,chV Zu1)::tl0
theorem Ye5:∀ x:Bool,isB (Zcc ysE (inL txtP.fsL) (fun _ _=>none) (kcL (tla x)) 60 15 (.cons gR .nil) 100 he 100)=true:=by
 intro x
 cases x<;>kernel_rfl
theorem all_l (c:Cx g none [] 0 w0) (w:World) (hb:Below w0.heap.size w0 w):Calls Tryz.prog 15 #[g.v] w fun e w'=>e=.returned (.bool true)/\Below w.heap.size w w':=by
 obtain⟨b1,h1⟩:∃ b,b=bl (Zcz g.n (Zbl (mx g [] (Zac g) p56))):=⟨_,rfl⟩
 obtain⟨b2,h2⟩:∃ b,Zie g.n (mx g [] (Zac g) p63)=b:=⟨_,rfl⟩
 obtain⟨b3,h3⟩:∃ b,b=bl (Zcz g.n (Zbl (mx g [] (Zac g) p35))):=⟨_,rfl⟩
 obtain⟨b4,h4⟩:∃ b,b=bl (Zcz g.n (mx g [] (Zac g) p65)):=⟨_,rfl⟩
 obtain⟨b5,h5⟩:∃ b,b=bl (Zcz g.n (Zbl (mx g [] (Zac g) p66))):=⟨_,rfl⟩
 have e1:b1=true↔_:=h1▸Zrd
 have e3:b3=true↔_:=h3▸Zrd
 have e4:b4=true↔_:=h4▸Zrd
 have e5:b5=true↔_:=h5▸Zrd
 have T1:=t_g (g:=g) (w0:=w0) 14 (by kernel_rfl) _ (fun w hb=>Zra c b1 b2 b3 b4 b5 e1 h2 e3 e4 e5 w hb)
 have T2:=t_g (g:=g) (w0:=w0) 57 (by kernel_rfl) _ (fun w hb=>Yfd c b1 b2 b3 b4 b5 (Yxd c▸e1) (Yxc c▸h2) (Yh2 c▸e3) (Yxb c▸e4) (Yxa c▸e5) w hb)
 refine(Ze3 (ρ:=rho g none [] 0 w0 (Zac g)) Zcu (Zbk txtP.fsL_ok) Za8 (kc:=kcL (tla _)) (Zbr (List.forall_mem_cons.2 ⟨T1,List.forall_mem_cons.2 ⟨T2,List.forall_mem_cons.2 ⟨Ykg c,Zf8 c⟩⟩⟩)) globs (w:=w) hb (Ye5 _) (vs:=[g.v]) (fun m=>denC_cons.2 ⟨_,_,rfl,Zg4 m,denC_nil.2 rfl⟩)).mono ?_
 rintro e w' ⟨rfl,o⟩
 exact⟨rfl,o.below⟩
theorem Ykq:Zt1 (Zcc ysE (inL txtP.fsL) (fun _ _=>none) (kcL [(128,1,chV (l_g false))]) 60 14 (.cons gR .nil) 100 he 100)=some false:=by kernel_rfl
theorem cons_no (h0:GIn0 w0 g) (hc:¬ CheckOk g) (w:World) (hb:Below w0.heap.size w0 w):Calls Tryz.prog 14 #[g.v] w fun e w'=>e=.returned (.bool false)/\Below w.heap.size w w':=by
 have T1:=t_g (g:=g) (w0:=w0) 128 (by kernel_rfl) false (fun w hb=>(Zwq g w (h0.next hb)).mono fun e w' h=>(by obtain⟨x,rfl,hx,hb⟩:=h;exact⟨by cases x with | false=>rfl | true=>exact absurd (hx.1 rfl) hc,hb⟩))
 refine(Zci (ρ:=rho g none [] 0 w0 (Zac g)) Zcu (Zbk txtP.fsL_ok) Za8 (kc:=kcL _) (Zbr (List.forall_mem_cons.2 ⟨T1,fun _ h=>by cases h⟩)) globs (w:=w) hb Ykq (vs:=[g.v]) (fun m=>denC_cons.2 ⟨_,_,rfl,Zg4 m,denC_nil.2 rfl⟩)).mono ?_
 rintro e w' ⟨rfl,o⟩
 exact⟨rfl,o.below⟩
end L20
end ToldP
end
section
attribute [local irreducible] RelA.rcells
attribute [local go_sem ↓] Go.wp_at_zero Go.wp_at_succ
theorem Ztc (g:Gr) (w:World) (h:GInA w g) (hec:g.E.length<=g.ec) (hcc:g.C.length<=g.cc) (ht:Tab w)
  (haw:∀ w',Below w.heap.size w w'->Calls Tryz.prog 13 #[] w' fun e w''=>e=.returned (.bool true)/\Below w'.heap.size w' w'') :
  Calls Tryz.prog 5 #[g.v] w fun e w'=>e=.returned (.bool true)/\Below w.heap.size w w':=by
 have HAW:=jh haw
 have HFE:=jh (fun w' (hb:Below w.heap.size w w')=>Ygs g w' (h.co.next hb))
 have HCH:=jh (fun w' (hb:Below w.heap.size w w') (f:FewOk g)=>Zx2 g w' ((h.next hb).few f))
 have HNO:=jh (fun w' (hb:Below w.heap.size w w') (f:FewOk g) (c:¬ CheckOk g)=>ToldP.L20.cons_no (g:=g) (w0:=w') ((h.next hb).few f) c w' (Below.refl _ _))
 have HAL:=jh (fun w' (hb:Below w.heap.size w w') (f:FewOk g) (c:CheckOk g)=>ToldP.L20.all_l (g:=g) ⟨Yld (h.next hb) f c hec hcc,ht.next hb,c,Zhn w',by simp⟩ w' (Below.refl _ _))
 clear h hec hcc ht haw
 generalize FewOk g=FO at *
 generalize CheckOk g=CO at *
 have HG0:=jh (GBox.of_alloc w g 27)
 obtain⟨G,hG⟩:∃ G,G=g:=⟨_,rfl⟩
 obtain⟨locs,ea,E,ec,ra,R,rc,ca,C,cc,ma,Rmw,mc,da,Data,dc,ta,Ctrl,tc,ia,CtrlI,ic⟩:=g
 simp only[Gr.v,Zaw] at HFE HCH HNO HAL HG0 ⊢
 rw[<- hG] at HG0
 go_enter Tryz.func5,Tryz.ntmps5
 go_wp2_with fail
 obtain⟨w1,hw1⟩:∃ x,x=w.alloc (Obj.cells #[.int .i64 locs,.slice ea E.length ec,.slice ra R.length rc,.slice ca C.length cc,.slice ma Rmw.length mc,.slice da Data.length dc,.slice ta Ctrl.length tc,.slice ia CtrlI.length ic] 27 (0,0)):=⟨_,rfl⟩
 rw[<- hw1] at HG0 ⊢
 have hs1:w1.heap.size=w.heap.size+1:=by rw[hw1];simp
 have HB1:Hid (Below w.heap.size w w1):=jh (by rw[hw1];exact jb)
 clear hw1
 obtain⟨c0,c1,c2,c3,c4,c5,c6,c7⟩:=HG0.out
 rw[hG] at c0 c1 c2 c3 c4 c5 c6 c7
 dsimp only at c0 c1 c2 c3 c4 c5 c6 c7
 have HGB:=HG0
 have HB:=HB1
 clear HG0 HB1 hs1
 refine(HFE.out _ HB.out).mono ?_
 rintro e wn ⟨x,rfl,hx,hbe⟩
 have HX:=jh hx
 have HGB:=jh (HGB.out.next hbe)
 have HB:=jh (Zab HB.out hbe)
 clear hx hbe c0 c1 c2 c3 c4 c5 c6 c7
 cases x
 ·go_wp2_with fail
  refine(HAW.out _ HB.out).mono ?_
  rintro e wn ⟨rfl,hbe⟩
  have HB:=jh (Zab HB.out hbe)
  clear hbe
  go_wp2_with fail
  go_ret
  exact⟨rfl,HB.out⟩
 ·have hfo:=HX.out rfl
  have HFO:=jh hfo
  clear HX hfo
  obtain⟨c0,c1,c2,c3,c4,c5,c6,c7⟩:=HGB.out
  rw[hG] at c0 c1 c2 c3 c4 c5 c6 c7
  dsimp only at c0 c1 c2 c3 c4 c5 c6 c7
  by_cases e1:20<E.length
  ·have l1:decide ((20:Int)<(E.length:Int))=true:=by simp;omega
   go_wp2_with fail
   refine(HAW.out _ HB.out).mono ?_
   rintro e wn ⟨rfl,hbe⟩
   have HB:=jh (Zab HB.out hbe)
   clear hbe
   go_wp2_with fail
   go_ret
   exact⟨rfl,HB.out⟩
  ·have l1:decide ((20:Int)<(E.length:Int))=false:=by simp;omega
   go_wp2_with fail
   refine(HCH.out _ HB.out HFO.out).mono ?_
   rintro e wn ⟨x,rfl,hx,hbe⟩
   have HX:=jh hx
   have HGB:=jh (HGB.out.next hbe)
   have HB:=jh (Zab HB.out hbe)
   clear hx hbe c0 c1 c2 c3 c4 c5 c6 c7
   obtain⟨c0,c1,c2,c3,c4,c5,c6,c7⟩:=HGB.out
   rw[hG] at c0 c1 c2 c3 c4 c5 c6 c7
   dsimp only at c0 c1 c2 c3 c4 c5 c6 c7
   cases x
   ·have HCN:Hid (¬ CO):=jh (fun h=>by have:=HX.out.2 h;cases this)
    go_wp2_with fail
    refine(HNO.out _ HB.out HFO.out HCN.out).mono ?_
    rintro e wn ⟨rfl,hbe⟩
    have HB:=jh (Zab HB.out hbe)
    clear hbe c0 c1 c2 c3 c4 c5 c6 c7
    go_wp2_with fail
    refine(HAW.out _ HB.out).mono ?_
    rintro e wn ⟨rfl,hbe⟩
    have HB:=jh (Zab HB.out hbe)
    clear hbe
    go_wp2_with fail
    go_ret
    exact⟨rfl,HB.out⟩
   ·have HCO:=jh (HX.out.1 rfl)
    clear HX
    go_wp2_with fail
    refine(HAL.out _ HB.out HFO.out HCO.out).mono ?_
    rintro e wn ⟨rfl,hbe⟩
    have HB:=jh (Zab HB.out hbe)
    clear hbe c0 c1 c2 c3 c4 c5 c6 c7
    go_wp2_with fail
    refine(HAW.out _ HB.out).mono ?_
    rintro e wn ⟨rfl,hbe⟩
    have HB:=jh (Zab HB.out hbe)
    clear hbe
    go_wp2_with fail
    go_ret
    exact⟨rfl,HB.out⟩
end
end Go.Proofs.YthcnhbclagegeaaGreatDoor
