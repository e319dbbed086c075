/-
  One text of a symbolic evaluator over the model, shown sound once for every program: no statement is claimed here.
-/
import Derived.Test.YthcnhbclagegeaaGreatDoorRnQ
namespace Go.Rn
variable {g fl n n' nt lim:Nat} {h h':HT} {t:FT} {v:RV} {ys:Ys} {cl:Cl'}
abbrev Hn:=HT->Nat->SR
section
variable (C:Hn->Prop) {d:Hn}
theorem Yht {x:RV} {k:Bool->Hn} (hd:C d) (hk:∀ b,C (k b)):C (fun h n=>gB (d h n) x (fun b=>k b h n)):=by cases x<;>first | exact hd | exact hk _
theorem Ycf {x:RV} {k:IntKind->Int->Hn} (hd:C d) (hk:∀ a b,C (k a b)):C (fun h n=>gI (d h n) x (fun a b=>k a b h n)):=by cases x<;>first | exact hd | exact hk _ _
theorem Yvk {x:RV} {k:IntKind->SE->Hn} (hd:C d) (hk:∀ a b,C (k a b)):C (fun h n=>gY (d h n) x (fun a b=>k a b h n)):=by cases x<;>first | exact hd | exact hk _ _
theorem Yo6 {x:RV} {k:List Nat->Hn} (hd:C d) (hk:∀ b,C (k b)):C (fun h n=>gS (d h n) x (fun b=>k b h n)):=by cases x<;>first | exact hd | exact hk _
theorem Yh9 {x:RV} {k:Nat->Nat->Hn} (hd:C d) (hk:∀ a b,C (k a b)):C (fun h n=>gP (d h n) x (fun a b=>k a b h n)):=by cases x<;>first | exact hd | exact hk _ _
theorem Ynr {x:RV} {k:Nat->RV->Hn} (hd:C d) (hk:∀ a b,C (k a b)):C (fun h n=>gF (d h n) x (fun a b=>k a b h n)):=by cases x<;>first | exact hd | exact hk _ _
theorem Yns {x:RV} {k:RV->Hn} (hd:C d) (hk:∀ a,C (k a)):C (fun h n=>gA (d h n) x (fun a=>k a h n)):=by cases x<;>first | exact hd | exact hk _
theorem Xbu {x:RV} {k:RV->Hn} (hd:C d) (hk:∀ a,C (k a)):C (fun h n=>gT (d h n) x (fun a=>k a h n)):=by cases x<;>first | exact hd | exact hk _
theorem Zt2 {x:RV} {k:RV->Hn} (hd:C d) (hk:∀ a,C (k a)):C (fun h n=>nU (d h n) x (fun a=>k a h n)):=by cases x<;>first | exact hd | exact hk _
theorem Yvm {x:RV} {k:RV->Hn} (hd:C d) (hk:∀ a,C (k a)):C (fun h n=>gC (d h n) x (fun a=>k a h n)):=by cases x<;>first | exact hd | exact hk _
theorem Zno {β:Type} {x:Option β} {k:β->Hn} (hd:C d) (hk:∀ a,C (k a)):C (fun h n=>gO (d h n) x (fun a=>k a h n)):=by cases x<;>first | exact hd | exact hk _
theorem Yo7 {x:RV} {k0:Hn} {k1 k2:Nat->Nat->Nat->Nat->Hn} {k3:Nat->Nat->Hn} (hd:C d) (h0:C k0) (h1:∀ a b c d,C (k1 a b c d)) (h2:∀ a b c d,C (k2 a b c d)) (h3:∀ a b,C (k3 a b)) :
  C (fun h n=>gL (d h n) x (k0 h n) (fun a b c d=>k1 a b c d h n) (fun a b c d=>k2 a b c d h n) (fun a b=>k3 a b h n)):=by cases x<;>first | exact hd | exact h0 | exact h1 _ _ _ _ | exact h2 _ _ _ _ | exact h3 _ _
theorem Zyh {x:RV} {k0:Hn} {k1:RV->RV->Hn} (hd:C d) (h0:C k0) (h1:∀ a b,C (k1 a b)):C (fun h n=>gN (d h n) x (k0 h n) (fun a b=>k1 a b h n)):=by cases x<;>first | exact hd | exact h0 | exact h1 _ _
theorem Zg2 {b:Bool} {k:Hn} (hd:C d) (hk:C k):C (fun h n=>bf b (d h n) (k h n)):=by cases b<;>first | exact hd | exact hk
theorem Zgp {x:RV} {why:Nat} (hd:C (fun _ _=>.bad [why])) (hk:∀ v,C (fun h n=>.ok v h n)):C (fun h n=>okV x h n why):=Zt2 C hd hk
theorem Zui {x:RV} {l:Nat} {k:Nat->Hn} (hd:∀ l,C (fun _ _=>.bad l)) (hk:∀ a,C (k a)):C (fun h n=>ixN x l (fun a=>k a h n)):=
 Ycf C (hd _) fun _ _=>Zg2 C (Zg2 C (hk _) (hd _)) (hd _)
theorem Zww {b:Bool} {c:RV} {off m:Nat} (hd:∀ l,C (fun _ _=>.bad l)) (hk:∀ v,C (fun h n=>.ok v h n)):C (fun h n=>Zl0 b c off m h n):=
 Zg2 C (Zt2 C (hd _) fun _=>hk _) (Zgp C (hd _) hk)
end
def Qt (F:Hn):Prop:=(∃ v,∀ h n,F h n=.ok v h n)∨∀ h n,∃ l,F h n=.bad l
theorem Zaf (l:List Nat):Qt (fun _ _=>.bad l):=.inr fun _ _=>⟨l,rfl⟩
theorem Zbu (v:RV):Qt (fun h n=>.ok v h n):=.inl ⟨v,fun _ _=>rfl⟩
theorem Yvl (C:Hn->Prop) {d:Hn} {v:RV} {k:Nat->Hn} (h0:C d) (h1:∀ b,C (k b)):C (fun h n=>gM (d h n) v fun b=>k b h n):=by
 cases v<;>first | exact h0 | exact h1 _
def Mk (F:Hn):Prop:=(∃ (f:Nat->RV) (x:RB),∀ h n,F h n=.ok (f n) (hst h x n) (n+1))∨∀ h n,∃ l,F h n=.bad l
theorem Zgc (l:List Nat):Mk (fun _ _=>.bad l):=.inr fun _ _=>⟨l,rfl⟩
theorem Zjj (c:RV) (f:Nat->RV):Mk (fun h n=>Zja h n c (f n)):=by
 unfold Zja
 refine Zno Mk (Zgc _) fun z=>?_
 cases hz:Nat.beq z Za2 with
 | true=>
  refine .inr fun h n=>⟨[119],?_⟩
  show Zdp h n (lay c ce 0) z (f n)=_
  unfold Zdp
  rw[hz]
  rfl
 | false=>
  refine .inl ⟨f,.bk (lay c ce 0) z,fun h n=>?_⟩
  show Zdp h n (lay c ce 0) z (f n)=_
  unfold Zdp
  rw[hz,Zb4,Zb4]
  rfl
def Tu (fl:Nat) (F:Hn):Prop:=∀ h n v h' n',F h n=.ok v h' n'->fl<=n->Ab fl h n h' n'
theorem Zbw (l:List Nat):Tu fl (fun _ _=>.bad l):=fun _ _ _ _ _ e=>by cases e
theorem Zt7 (v:RV):Tu fl (fun h n=>.ok v h n):=fun _ _ _ _ _ e _=>by cases e;exact Ab.refl _ _ _
theorem Qt.tu {F:Hn} (q:Qt F):Tu fl F:=fun h n v h' n' e _=>by
 rcases q with⟨u,q⟩ | q
 ·rw[q] at e;cases e;exact Ab.refl _ _ _
 ·obtain⟨l,q⟩:=q h n;rw[q] at e;cases e
theorem Mk.tu {F:Hn} (q:Mk F):Tu fl F:=fun h n v h' n' e hf=>by
 rcases q with⟨u,x,q⟩ | q
 ·rw[q] at e;cases e;exact Ab.new _ hf
 ·obtain⟨l,q⟩:=q h n;rw[q] at e;cases e
theorem Zfj (cs:CT) (z:Nat) (f:Nat->RV):Tu fl (fun h n=>Zdp h n cs z (f n)):=fun h n v h' n' e hf=>by
 have e1:Zdp h n cs z (f n)=.ok v h' n':=e
 obtain⟨_,rfl,rfl,rfl⟩:=Zin e1
 exact Ab.new _ hf
theorem Zhi (b k:Nat) (c:RV):Tu fl (fun h n=>Zia fl h b k c n):=fun h n v h' n' e hf=>by
 have e1:Zia fl h b k c n=.ok v h' n':=e
 unfold Zia at e1
 obtain⟨h1,e2⟩:=Zad e1 (by simp)
 obtain⟨cs,z,hb,e3⟩:=Zg5 e2 (by simp)
 obtain⟨c',hov,e4⟩:=Za5 e3 (by simp)
 rw[Zb4] at e4
 cases e4
 exact Ab.set _ (Zam h1) (fun _ _ _=>⟨_,_,hb⟩)
theorem Zyl {F:Hn} {k:RV->Hn} (hF:Tu fl F) (hk:∀ v,Tu fl (k v)):Tu fl (fun h n=>gR (F h n) (fun v h n=>k v h n)):=fun h n v h' n' e hf=>by
 obtain⟨v1,h1,n1,e1,e2⟩:=Zs1 (show gR (F h n) (fun v h n=>k v h n)=.ok v h' n' from e)
 have a:=hF _ _ _ _ _ e1 hf
 exact a.trans (hk v1 _ _ _ _ _ e2 (Nat.le_trans hf a.le))
theorem Zvk (x c v:RV):Tu fl (fun h n=>Yb9 fl x c h n v):=by
 unfold Yb9
 refine Yo7 (Tu fl) (Zbw _) (Zbw _) (fun b o _ _=>?_) (fun b o _ _=>?_) (fun _ _=>Zbw _)
 ·exact Zyl (Zhi b o c) fun _=>Zgp (Tu fl) (Zbw _) Zt7
 ·exact Zyl (Zhi b o c) fun _=>Zgp (Tu fl) (Zbw _) Zt7
theorem Zpv {b:Nat} (hb:fl<=b) {h:HT} {n:Nat}:Ab fl h n (hst h .no b) n:=Ab.set .no hb (fun _ _ e=>by cases e)
theorem Zw1 {es q:Nat} {x y:RV} {h h':HT} {n n':Nat} {v:RV} (e6:Yci fl es x q y h n=.ok v h' n') (hf:fl<=n):Ab fl h n h' n':=by
 have growC_ab:∀ {es b o l:Nat} {y:RV} {q:Nat} {kill h0:HT},(kill=h0∨∃ b,fl<=b/\kill=hst h0 .no b)->Zl7 h n es b o l y q kill=.ok v h' n'->Ab fl h0 n h' n':=by
  intro es b o l y q kill h0 hk e
  unfold Zl7 at e
  obtain⟨_,e2⟩:=Za4 e (by simp)
  have:=Zfj (fl:=fl) _ _ (fun n=>.su n 0 (Nat.add l q) es) _ _ _ _ _ e2 hf
  rcases hk with rfl | ⟨b,hb,rfl⟩
  ·exact this
  ·exact(Zpv hb).trans this
 unfold Yci at e6
 rcases Zif e6 (by simp) with⟨_,e7⟩ | ⟨b,k,l',c',_,e7⟩ | ⟨b,k,l',f,_,e7⟩ | ⟨b,f,_,e7⟩
 ·exact Zfj _ _ (fun n=>.su n 0 q es) _ _ _ _ _ e7 hf
 ·rcases Za0 e7 with⟨_,e8⟩ | ⟨_,e8⟩
  ·exact Zyl (fl:=fl) (Zhi b _ _) (fun _=>Zt7 _) _ _ _ _ _ e8 hf
  ·rcases Za0 e8 with⟨_,e9⟩ | ⟨_,e9⟩
   ·exact Zfj _ _ (fun n=>.su n 0 q es) _ _ _ _ _ e9 hf
   ·exact growC_ab (.inl rfl) e9
 ·obtain⟨_,e8⟩:=Zad e7 (by simp)
  rcases Za0 e8 with⟨_,e9⟩ | ⟨_,e8⟩
  ·exact Zyl (fl:=fl) (Zhi b _ _) (fun _=>Zt7 _) _ _ _ _ _ e9 hf
  obtain⟨hb,e9⟩:=Zad e8 (by simp)
  unfold Yj2 at e9
  obtain⟨c,z,_,e10⟩:=Zg5 e9 (by simp)
  rcases Za0 e10 with⟨_,e11⟩ | ⟨_,e11⟩
  ·exact(Zpv (Zam hb)).trans (Zfj (fl:=fl) _ _ (fun n=>.su n 0 (Nat.add l' q) es) _ _ _ _ _ e11 hf)
  ·exact growC_ab (.inr ⟨b,Zam hb,rfl⟩) e11
 ·obtain⟨_,e8⟩:=Zad e7 (by simp)
  obtain⟨hb,e9⟩:=Zad e8 (by simp)
  obtain⟨c,z,_,e10⟩:=Zg5 e9 (by simp)
  exact(Zpv (Zam hb)).trans (Zfj (fl:=fl) _ _ (fun n=>.su n 0 q es) _ _ _ _ _ e10 hf)
theorem Yl0 {es:Nat} {x y:RV} {h h':HT} {n n':Nat} {v:RV} (e:app fl es x y h n=.ok v h' n') (hf:fl<=n):Ab fl h n h' n':=by
 unfold app at e
 obtain⟨q,_,e1⟩:=Za5 e (by simp)
 rcases Za0 e1 with⟨_,e2⟩ | ⟨_,e2⟩
 ·obtain⟨_,_,e3⟩:=Za5 e2 (by simp)
  obtain⟨_,_,rfl,rfl⟩:=Zbx e3
  exact Ab.refl _ _ _
 ·obtain⟨_,e3⟩:=Zad e2 (by simp)
  obtain⟨_,e4⟩:=Za4 e3 (by simp)
  obtain⟨l,_,e5⟩:=Za5 e4 (by simp)
  obtain⟨_,e6⟩:=Zad e5 (by simp)
  exact Zw1 e6 hf
def Yd4 (g:Nat) (cl:Cl'):Prop:=∀ f c fl h n v h' n',cl f c fl h n=.ok v h' n'->g<=fl->fl<=n->Ab fl h n h' n'
theorem Zob {o:RP} (hc:cls o=.pure):Qt (fun h n=>step o ys cl fl lim t h n):=by
 cases o<;>first | (cases hc;done) | skip
 case mv x=>exact Zgp Qt (Zaf _) Zbu
 case pick=>exact Yht Qt (Zaf _) fun _=>Zgp Qt (Zaf _) Zbu
 case bd=>exact Zt2 Qt (Zaf _) fun _=>Zbu _
 case nc=>exact Yh9 Qt (Ynr Qt (Zaf _) fun _ _=>Zg2 Qt (Zyh Qt (Zaf _) (Zaf _) fun _ _=>Zbu _) (Zbu _)) fun _ _=>Zbu _
 case ta ty z two x=>
  have no:Qt (fun h n=>Yhm z two h n):=Zg2 Qt (Zt2 Qt (Zaf _) fun _=>Zbu _) (Zaf _)
  have yes:∀ v,Qt (fun h n=>Yd6 two v h n):=fun v=>Zt2 Qt (Zaf _) fun _=>Zg2 Qt (Zbu _) (Zbu _)
  exact Ynr Qt (Zaf _) fun _ _=>Zg2 Qt (Zyh Qt (Zaf _) no fun _ _=>Zyh Qt (Zaf _) (Zyh Qt (Zaf _) (Zaf _) fun _ _=>Zyh Qt (Zaf _) (Zg2 Qt (yes _) no) fun _ _=>Zaf _) fun _ _=>Zaf _) (Zaf _)
 case bn=>exact Zgp Qt (Zaf _) Zbu
 case bq=>exact Yht Qt (Zaf _) fun _=>Yht Qt (Zaf _) fun _=>Zbu _
 case se=>exact Zg2 Qt (Yht Qt (Zaf _) fun _=>Zbu _) (Yns Qt (Zaf _) fun _=>Yns Qt (Zaf _) fun _=>Yht Qt (Zaf _) fun _=>Zbu _)
 case nq=>exact Zno Qt (Zaf _) fun _=>Zno Qt (Zaf _) fun _=>Zg2 Qt (Zg2 Qt (Zbu _) (Zg2 Qt (Zbu _) (Zaf _))) (Zaf _)
 case ng=>exact Ycf Qt (Yvk Qt (Zaf _) fun _ _=>Zbu _) fun _ _=>Zgp Qt (Zaf _) Zbu
 case nt=>exact Yht Qt (Zaf _) fun _=>Zbu _
 case cv=>exact Ycf Qt (Zaf _) fun _ _=>Zgp Qt (Zaf _) Zbu
 case mf=>exact Zt2 Qt (Zaf _) fun _=>Zbu _
 case sc=>exact Zno Qt (Zaf _) fun _=>Zno Qt (Zaf _) fun _=>Zno Qt (Zaf _) fun _=>Zno Qt (Zgp Qt (Zaf _) Zbu) fun _=>Zno Qt (Zaf _) fun _=>Zgp Qt (Zaf _) Zbu
 case ss=>exact Yo6 Qt (Zaf _) fun _=>Zno Qt (Zaf _) fun _=>Zno Qt (Zaf _) fun _=>Zg2 Qt (Zg2 Qt (Zbu _) (Zaf _)) (Zaf _)
 case sa=>exact Yh9 Qt (Zaf _) fun _ _=>Zno Qt (Zaf _) fun _=>Zno Qt (Zaf _) fun _=>Zgp Qt (Zaf _) Zbu
 case fa=>exact Yh9 Qt (Zaf _) fun _ _=>Zbu _
 case fd=>exact Yns Qt (Zaf _) fun _=>Zww Qt Zaf Zbu
 case ia=>exact Yo7 Qt (Zaf _) (Zaf _) (fun _ _ _ _=>Zui Qt Zaf fun _=>Zbu _) (fun _ _ _ _=>Zui Qt Zaf fun _=>Zbu _) (fun _ _=>Zaf _)
 case ip=>exact Yh9 Qt (Zaf _) fun _ _=>Zui Qt Zaf fun _=>Zbu _
 case ix=>exact Yns Qt (Zaf _) fun _=>Zui Qt Zaf fun _=>Zww Qt Zaf Zbu
 case sx=>exact Yo6 Qt (Zaf _) fun _=>Zui Qt Zaf fun _=>Zno Qt (Zaf _) fun _=>Zbu _
 case ex=>exact Xbu Qt (Zaf _) fun _=>Zgp Qt (Zaf _) Zbu
 case ln x=>
  have op:Qt (fun h n=>Zyn ys (ev t x) h n):=Ynr Qt (Zaf _) fun _ _=>Zg2 Qt (Zyh Qt (Zaf _) (Zaf _) fun _ _=>Ycf Qt (Zaf _) fun _ _=>Zyh Qt (Zaf _) (Zaf _) fun _ _=>Zyh Qt (Zaf _)
   (Yvk Qt (Zaf _) fun _ _=>Zg2 Qt (Zg2 Qt (Zbu _) (Zaf _)) (Zaf _)) fun _ _=>Zaf _) (Zaf _)
  exact Zg2 Qt (Yo6 Qt (Zaf _) fun _=>Zgp Qt (Zaf _) Zbu) (Zno Qt op fun _=>Zgp Qt (Zaf _) Zbu)
 case cp=>exact Yo7 Qt (Zaf _) (Zbu _) (fun _ _ _ _=>Zbu _) (fun _ _ _ _=>Zaf _) (fun _ _=>Zaf _)
 case mm=>exact Ycf Qt (Zaf _) fun _ _=>Ycf Qt (Zaf _) fun _ _=>Zg2 Qt (Zgp Qt (Zaf _) Zbu) (Zaf _)
 case fg=>exact Zbu _
theorem Zlk {o:RP} (hc:cls o=.alloc):Mk (fun h n=>step o ys cl fl lim t h n):=by
 cases o<;>first | (cases hc;done) | skip
 case al z=>exact Zjj z (fun n=>.p n 0)
 case bx x=>exact Yvm Mk (Zgc _) fun c=>Zjj c (fun n=>.p n 0)
 case bs z len ps=>exact Zt2 Mk (Zgc _) fun c=>Zjj c (fun n=>.sl n 0 len len)
 case ms z l c=>exact Ycf Mk (Zgc _) fun _ a=>Ycf Mk (Zgc _) fun _ b=>Zg2 Mk (Zg2 Mk (Zg2 Mk (Zg2 Mk (Zg2 Mk (Zjj _ (fun n=>.sl n 0 (Zcm a) (Zcm b))) (Zgc _)) (Zgc _)) (Zgc _)) (Zgc _)) (Zgc _)
 case mk=>exact .inl ⟨fun n=>.mp n,.bk (cst ce (.i .i64 (.ofNat 0)) 0) Za2,fun h n=>by
  show fT (cst ce (.i .i64 (.ofNat 0)) 0) (fun cs=>fT (hst h (.bk cs Za2) n) fun h=>SR.ok (.mp n) h (Nat.succ n))=_
  rw[Zb4,Zb4]⟩
theorem Zhv {gg:Bool} {q:Nat} {x:RO} (e:step (.ld gg q x) ys cl fl lim t h n=.ok v h' n') :
  h'=h/\n'=n/\∃ b o c z,ev t x=.p b o/\b<lim/\hg h b=.bk c z/\rdV gg q c o=v/\v≠.un/\z≠Za2:=by
 have e1:gP (.bad [10]) (ev t x) (fun b o=>bf (Nat.ble (Nat.succ b) lim) (gK (.bad [7]) (hg h b) fun cs _=>ldC gg q cs o h n) (.bad [11]))=.ok v h' n':=e
 obtain⟨b,k,hb,e2⟩:=Znv e1 (by simp)
 obtain⟨hl,e3⟩:=Zad e2 (by simp)
 obtain⟨c,z,hbk,e4⟩:=Zg5 e3 (by simp)
 have hmz:=Zk1 e3 (by simp) hbk
 have hl2:=Zam hl
 cases gg with
 | true=>
  have e5:nU (SR.bad [8]) (rd c q k) (fun c=>SR.ok (.agg c) h n)=.ok v h' n':=e4
  obtain⟨hu,e6⟩:=Za4 e5 (by simp)
  cases e6
  refine⟨rfl,rfl,b,k,c,z,hb,hl2,hbk,?_,by simp,hmz⟩
  show nU RV.un (rd c q k) (fun c=>RV.agg c)=_
  cases hx:rd c q k<;>first | rfl | exact absurd hx hu
 | false=>
  have e5:okV (cg c k) h n 9=.ok v h' n':=e4
  obtain⟨hu,rfl,rfl,rfl⟩:=Zbx e5
  exact⟨rfl,rfl,b,k,c,z,hb,hl2,hbk,rfl,hu,hmz⟩
theorem Zxp {gg:Bool} {q:Nat} {x:RO} {b o z:Nat} {c:CT} (h1:ev t x=.p b o) (h2:b<lim) (h3:hg h b=.bk c z) (h4:rdV gg q c o=v) (h5:v≠.un) (hmz:z≠Za2) :
  step (.ld gg q x) ys cl fl lim t h n=.ok v h n:=by
 show gP (.bad [10]) (ev t x) (fun b o=>bf (Nat.ble (Nat.succ b) lim) (gK (.bad [7]) (hg h b) fun cs _=>ldC gg q cs o h n) (.bad [11]))=.ok v h n
 rw[h1]
 show bf (Nat.ble (Nat.succ b) lim) (gK (.bad [7]) (hg h b) fun cs _=>ldC gg q cs o h n) (.bad [11])=.ok v h n
 have:Nat.ble (Nat.succ b) lim=true:=Nat.ble_eq_true_of_le h2
 rw[this,h3]
 have hz:Nat.beq z Za2=false:=by
  cases hq:Nat.beq z Za2 with
  | false=>rfl
  | true=>exact absurd (Zak hq) hmz
 show bf (Nat.beq z Za2) (SR.bad [7]) (ldC gg q c o h n)=_
 rw[hz]
 show ldC gg q c o h n=_
 cases gg with
 | true=>
  have e:nU RV.un (rd c q o) (fun c=>RV.agg c)=v:=h4
  obtain⟨hu,e2⟩:=Za4 e (fun q=>h5 q.symm)
  show nU (SR.bad [8]) (rd c q o) (fun c=>SR.ok (.agg c) h n)=_
  rw[<- e2]
  cases hx:rd c q o<;>first | rfl | exact absurd hx hu
 | false=>
  have e:cg c o=v:=h4
  show nU (SR.bad [9]) (cg c o) (fun v=>SR.ok v h n)=_
  rw[e]
  cases v<;>first | rfl | exact absurd rfl h5
theorem Zpx (hcl:Yd4 g cl) (hgf:g<=fl) {o:RP}:Tu fl (fun h n=>step o ys cl fl lim t h n):=by
 cases hc:cls o with
 | pure=>exact(Zob hc).tu
 | alloc=>exact(Zlk hc).tu
 | load=>
  cases o<;>first | (cases hc;done) | skip
  case ld gg q x=>exact fun h n v h' n' e _=>by obtain⟨rfl,rfl,_⟩:=Zhv e;exact Ab.refl _ _ _
 | eff=>
  cases o<;>first | (cases hc;done) | skip
  case st q x y=>exact Yh9 (Tu fl) (Zbw _) fun b o=>Yvm (Tu fl) (Zbw _) fun c=>Zno (Tu fl) (Zbw _) fun q=>Zg2 (Tu fl) (Zhi b o c) (Zbw _)
  case cl f as=>exact Zt2 (Tu fl) (Zbw _) fun c h n v h' n' e hf=>hcl f c fl h n v h' n' e hgf hf
  case cf x as=>exact Ynr (Tu fl) (Zbw _) fun f c=>Zt2 (Tu fl) (Zbw _) fun a=>Zg2 (Tu fl) (Zyh (Tu fl) (Zbw _) (Zbw _) fun y r=>Zg2 (Tu fl) (Zyh (Tu fl) (Zbw _) (fun h n v h' n' e hf=>hcl _ _ fl h n v h' n' e hgf hf) fun _ _=>Zbw _) (Zt2 (Tu fl) (Zbw _) fun c h n v h' n' e hf=>hcl _ _ fl h n v h' n' e hgf hf)) (Zt2 (Tu fl) (Zbw _) fun c h n v h' n' e hf=>hcl f c fl h n v h' n' e hgf hf)
  case pq neg x y=>
   refine fun h n v h' n' e _=>?_
   obtain⟨_,e2⟩:=Zad (show bf (bf (Nat.beq (kOf (ev t x)) 12) (bf (Nat.beq (kOf (ev t y)) 12) (bf (Zey fl h (ev t x)) (Zey fl h (ev t y)) false) false) false)
    (SR.ok (mkB (eqB neg (Zh7 (kEq (ev t x) (ev t y))))) h n) (.bad [197])=.ok v h' n' from e) (by simp)
   cases e2
   exact Ab.refl _ _ _
  case b2 x=>exact Zno (Tu fl) (Zbw _) fun q=>Zg2 (Tu fl) (fun h n v h' n' e hf=>by
    obtain⟨_,e2⟩:=Za4 (d:=SR.bad [193]) e (by simp)
    obtain⟨l,_,e3⟩:=Za5 e2 (by simp)
    cases e3
    exact Ab.refl _ _ _) (Zbw _)
  case iv l x as=>
   refine fun h n v h' n' e hf=>?_
   obtain⟨f,_,h1⟩:=Zu6 (show gIf (.bad [189]) (ev t x) (.bad [190]) (fun f v=>ivL f l v h n fun g r=>nU (.bad [191]) (evL t as) fun a=>cl g (.cons r a) fl h n)=.ok v h' n' from e)
   rcases h1 with⟨_,e2⟩ | ⟨y,_,e2⟩
   ·cases e2
   ·obtain⟨_,g0,_,_,_,_,r,_,_,_,_,_,e3⟩:=Zu4 e2
    obtain⟨_,e4⟩:=Za4 e3 (by simp)
    exact hcl g0 _ fl h n v h' n' e4 hgf hf
  case ap es x y=>exact fun h n v h' n' e hf=>Yl0 (show app fl es (ev t x) (ev t y) h n=.ok v h' n' from e) hf
  case cy es x y=>
   refine Zno (Tu fl) (Zbw _) fun a h n v h' n' e hf=>?_
   obtain⟨b,_,e2⟩:=Za5 (d:=SR.bad [78]) e (by simp)
   rcases Za0 e2 with⟨_,e3⟩ | ⟨_,e3⟩
   ·cases e3;exact Ab.refl _ _ _
   ·obtain⟨_,e4⟩:=Za4 e3 (by simp)
    exact Zvk _ _ _ _ _ _ _ _ e4 hf
  case cr z x=>exact Zno (Tu fl) (Zbw _) fun l=>Zg2 (Tu fl) (Zt7 _) (Zt2 (Tu fl) (Zbw _) fun c=>Zvk _ _ _)
  case az es z x y=>
   refine fun h n v h' n' e hf=>?_
   obtain⟨j,a,_,e3⟩:=Zg6 (show gI (.bad [171]) (ev t y) (fun j a=>bf (Zt3 j) (bf (Zlx a) (bf (Nat.ble (Zcm a) 65536) (gO (.bad [170]) (Zcs (ev t x)) fun l=>bf (Nat.beq (Zcm a) 0) (okV (ev t x) h n 172)
    (bf (Nat.ble l 1048576) (nU (.bad [177]) (rep z (Zcm a)) fun c=>gO (.bad [176]) (Zba c) fun q=>bf (Nat.beq q (Nat.mul (Zcm a) es)) (Yci fl es (ev t x) (Zcm a) c h n) (.bad [179])) (.bad [178]))) (.bad [173])) (.bad [174])) (.bad [175]))=.ok v h' n' from e) (by simp)
   obtain⟨_,e4⟩:=Zad e3 (by simp)
   obtain⟨_,e5⟩:=Zad e4 (by simp)
   obtain⟨_,e6⟩:=Zad e5 (by simp)
   obtain⟨_,_,e7⟩:=Za5 e6 (by simp)
   rcases Za0 e7 with⟨_,e8⟩ | ⟨_,e8⟩
   ·obtain⟨_,rfl,rfl,rfl⟩:=Zbx e8
    exact Ab.refl _ _ _
   ·obtain⟨_,e9⟩:=Zad e8 (by simp)
    obtain⟨_,e10⟩:=Za4 e9 (by simp)
    obtain⟨_,_,e11⟩:=Za5 e10 (by simp)
    obtain⟨_,e12⟩:=Zad e11 (by simp)
    exact Zw1 e12 hf
  case mi q m k x=>
   refine Yvl (Tu fl) (Zbw _) fun b h n v h' n' e hf=>?_
   obtain⟨hb,e2⟩:=Zad (d:=SR.bad [138]) e (by simp)
   obtain⟨c,hc,e3⟩:=Zfg e2 (by simp)
   obtain⟨sz,_,e4⟩:=Za5 e3 (by simp)
   obtain⟨_,e5⟩:=Zad e4 (by simp)
   obtain⟨_,e6⟩:=Zad e5 (by simp)
   obtain⟨z,_,e7⟩:=Za5 e6 (by simp)
   obtain⟨_,e8⟩:=Za4 e7 (by simp)
   obtain⟨_,e9⟩:=Za4 e8 (by simp)
   rw[Zb4,Zb4] at e9
   cases e9
   exact Ab.set _ (Zam hb) (fun _ _ _=>⟨_,_,hc⟩)
  case ml q z two m k=>
   refine Yvl (Tu fl) (Zbw _) fun b h n v h' n' e hf=>?_
   obtain⟨hb,e2⟩:=Zad (d:=SR.bad [145]) e (by simp)
   obtain⟨c,hc,e3⟩:=Zfg e2 (by simp)
   obtain⟨sz,_,e4⟩:=Za5 e3 (by simp)
   obtain⟨_,e6⟩:=Zad e4 (by simp)
   obtain⟨x,_,e7⟩:=Za5 e6 (by simp)
   unfold Ynd at e7
   obtain⟨_,e8⟩:=Za4 e7 (by simp)
   rcases Za0 e8 with⟨_,e9⟩ | ⟨_,e9⟩<;>cases e9<;>exact Ab.refl _ _ _
end Go.Rn
namespace Go.Rn
variable {ρ:Rho} {m m':Mp} {P:Program}
variable {g fl n n' nt lim:Nat} {h h':HT} {t:FT} {a:Act} {o:Oper} {w:World} {v:RV} {ys:Ys} {cl:Cl'} {os:Array Oper}
theorem ClOk.ab (hcl:ClOk P ρ g cl):Yd4 g cl:=fun f c fl h n v h' n' e h1 h2=>(hcl f c fl h n v h' n' e h1 h2).1
theorem eqB_ok {a b:Bool}:eqB a b=true↔a=b:=by cases a<;>cases b<;>decide
theorem Zf4 (a:Act) (d:Option Tmp) (u:Value):(a.put d u).defers=a.defers:=by cases d<;>rfl
theorem Yco (F:Fr P ρ m nt t a.tmps) {q:G} (hg:Zue os nt o.guard=some q) (e:Zkr t q=.y):Region.wanted o (yielded os a.tmps)=true:=by
 unfold Region.wanted
 cases hx:o.guard with
 | none=>rfl
 | some jw=>
  obtain⟨j,b⟩:=jw
  rw[hx] at hg
  simp only[Zue] at hg
  cases hd:(os[j]?).bind (·.dst) with
  | none=>rw[hd] at hg;cases hg
  | some u=>
   rw[hd] at hg
   simp only at hg
   split at hg
   ·rename_i hu
    cases hg
    have e2:(match tg t (pa 20 (u+1)) with | .b x=>bf (eqB x b) W3.y .n | .ud=>.n | _=>.u)=.y:=e
    rw[Zt8 (Nat.lt_trans hu F.small)] at e2
    split at e2
    ·rename_i x hx2
     rcases Za0 e2 with⟨h1,_⟩ | ⟨_,h1⟩
     ·have:=F.slot u (by rw[hx2];simp)
      rw[hx2] at this
      have hv:a.tmps.getD u undef=.bool x:=this
      have hxb:=eqB_ok.1 h1
      subst hxb
      have hq:a.tmps[u]?=some (.bool x):=by
       rw[Array.getD_eq_getD_getElem?] at hv
       cases hq:a.tmps[u]? with
       | none=>rw[hq] at hv;cases hv
       | some y=>rw[hq] at hv;simp at hv;rw[hv]
      simp[yielded,hd,hq]
     ·cases h1
    ·cases e2
    ·cases e2
   ·cases hg
theorem Ycp (F:Fr P ρ m nt t a.tmps) {q:G} (hg:Zue os nt o.guard=some q) (e:Zkr t q=.n):Region.wanted o (yielded os a.tmps)=false:=by
 unfold Region.wanted
 cases hx:o.guard with
 | none=>rw[hx] at hg;cases hg;cases e
 | some jw=>
  obtain⟨j,b⟩:=jw
  rw[hx] at hg
  simp only[Zue] at hg
  cases hd:(os[j]?).bind (·.dst) with
  | none=>rw[hd] at hg;cases hg
  | some u=>
   rw[hd] at hg
   simp only at hg
   split at hg
   ·rename_i hu
    cases hg
    have e2:(match tg t (pa 20 (u+1)) with | .b x=>bf (eqB x b) W3.y .n | .ud=>.n | _=>.u)=.n:=e
    rw[Zt8 (Nat.lt_trans hu F.small)] at e2
    split at e2
    ·rename_i x hx2
     have:=F.slot u (by rw[hx2];simp)
     rw[hx2] at this
     have hv:a.tmps.getD u undef=.bool x:=this
     have hq:a.tmps[u]?=some (.bool x):=by
      rw[Array.getD_eq_getD_getElem?] at hv
      cases hq:a.tmps[u]? with
      | none=>rw[hq] at hv;cases hv
      | some y=>rw[hq] at hv;simp at hv;rw[hv]
     rcases Za0 e2 with⟨_,h1⟩ | ⟨h1,_⟩
     ·cases h1
     ·have hne:x≠b:=fun q=>by rw[eqB_ok.2 q] at h1;cases h1
      simp[yielded,hd,hq,hne]
    ·rename_i hx2
     have:=F.slot u (by rw[hx2];simp)
     rw[hx2] at this
     have hv:a.tmps.getD u undef=undef:=this
     have hq:∀ x,a.tmps[u]? ≠ some (.bool x):=fun x hq=>by
      rw[Array.getD_eq_getD_getElem?,hq] at hv;cases hv
     have hy:yielded os a.tmps j=none:=by
      simp only[yielded,hd,Option.bind_some]
     simp[hy]
    ·cases e2
   ·cases hg
def Zdb (r:BR) (e:Exit) (t:FT) (h:HT) (n:Nat):Prop:=(r=.nx t h n/\e=.normal)∨(∃ id,r=.ex id t h n/\e=.exit id)∨(r=.rt t h n/\e=.ret)
theorem brIs_nx {t t':FT} {e:Exit}:Zdb (.nx t h n) e t' h' n'↔e=.normal/\t'=t/\h'=h/\n'=n:=by
 unfold Zdb
 constructor
 ·rintro(⟨q,rfl⟩ | ⟨id,q,_⟩ | ⟨q,_⟩)<;>cases q
  exact⟨rfl,rfl,rfl,rfl⟩
 ·rintro⟨rfl,rfl,rfl,rfl⟩;exact .inl ⟨rfl,rfl⟩
theorem brIs_ex {t t':FT} {e:Exit} {id:Nat}:Zdb (.ex id t h n) e t' h' n'↔e=.exit id/\t'=t/\h'=h/\n'=n:=by
 unfold Zdb
 constructor
 ·rintro(⟨q,rfl⟩ | ⟨id,q,rfl⟩ | ⟨q,_⟩)<;>cases q
  exact⟨rfl,rfl,rfl,rfl⟩
 ·rintro⟨rfl,rfl,rfl,rfl⟩;exact .inr (.inl ⟨_,rfl,rfl⟩)
theorem brIs_rt {t t':FT} {e:Exit}:Zdb (.rt t h n) e t' h' n'↔e=.ret/\t'=t/\h'=h/\n'=n:=by
 unfold Zdb
 constructor
 ·rintro(⟨q,rfl⟩ | ⟨id,q,_⟩ | ⟨q,rfl⟩)<;>cases q
  exact⟨rfl,rfl,rfl,rfl⟩
 ·rintro⟨rfl,rfl,rfl,rfl⟩;exact .inr (.inr ⟨rfl,rfl⟩)
theorem Zb3 {t':FT} {e:Exit} {l:List Nat}:¬ Zdb (.bad l) e t' h' n':=by
 rintro(⟨q,_⟩ | ⟨id,q,_⟩ | ⟨q,_⟩)<;>cases q
def Marks (r:Option Nat) (fl base:Nat) (ds:List Deferred) (h:HT) (m:Mp) (w:World):Prop:=base<=w.heap.size/\(∀ d∈ds,∃ D,base<=D/\d={ target:=.collected D,args:=#[] }/\w.heap[D]?=some (.deferred (some []))/\∀ b c z O Z,fl<=b->hg h b=.bk c z->m b≠some (D,O,Z)) /\
 (∀ l,r=some l->∃ rec,w.heap[l]?=some (.loop rec))/\ds.Nodup
theorem Marks.nil {fl:Nat} {h:HT} {m:Mp} {w:World}:Marks none fl w.heap.size [] h m w:=⟨Nat.le_refl _,fun _ h=>(by cases h),fun _ h=>(by cases h),.nil⟩
theorem Marks.next {r:Option Nat} {base:Nat} {ds:List Deferred} {h2:HT} {n2:Nat} {m2:Mp} {w2:World} (k:Marks r fl base ds h m w) (T:Tr P ρ g fl h n m w h2 n2 m2 w2):Marks r fl base ds h2 m2 w2:=⟨Nat.le_trans k.1 T.keep.size,fun d hd=>by
 obtain⟨D,h0,h1,h3,h4⟩:=k.2.1 d hd
 have hlt:=(Array.getElem?_eq_some_iff.1 h3).1
 refine⟨D,h0,h1,(T.keep.block D hlt fun b c z O Z e1 e2=>h4 b c z O Z e1 e2).trans h3,fun b c z O Z e1 e2 e3=>?_⟩
 rcases T.orig b c z D O Z e1 e2 e3 with q | ⟨b0,c0,z0,O0,Z0,q1,q2,q3⟩
 ·omega
 ·exact h4 b0 c0 z0 O0 Z0 q1 q2 q3,fun l hl=>(let ⟨r,h⟩:=k.2.2.1 l hl;T.keep.loops l r h),k.2.2.2⟩
def Zpg (r:Option Nat) (P:Program) (ρ:Rho) (g fl nt:Nat) (F:Bd) (W:(Exit->Act->World->Prop)->Act->World->Prop):Prop:=∀ t h n e t' h' n',Zdb (F t h n) e t' h' n'->fl<=n ->
 Ab fl h n h' n'/\∀ (a:Act) (m:Mp) (w:World),Fr P ρ m nt t a.tmps->Sim P ρ m g h w->Fresh n n' m->∀ base,Marks r fl base a.defers h m w->∀ Q:Exit->Act->World->Prop,
  (∀ a' w' m',Marks r fl base a'.defers h' m' w'->Fr P ρ m' nt t' a'.tmps->Tr P ρ g fl h n m w h' n' m' w'->Q e a' w')->W Q a w
theorem Tr.le {h2:HT} {m2:Mp} {w2:World} {n2:Nat} (T:Tr P ρ g fl h n m w h2 n2 m2 w2) (f:Fresh n n2 m):Le m m2:=T.ext.le f
theorem Fresh.left {n1 n2:Nat} (f:Fresh n n2 m) (l:n1<=n2):Fresh n n1 m:=fun b h1 h2=>f b h1 (Nat.lt_of_lt_of_le h2 l)
theorem Fresh.right {n1 n2:Nat} (f:Fresh n n2 m) (x:Ext n n1 m m') (l:n<=n1):Fresh n1 n2 m':=fun b h1 h2=>by rw[x b (.inr h1)];exact f b (Nat.le_trans l h1) h2
theorem Yc9 {r:Option Nat} (hy:YsOk ρ ys) (hcl:ClOk P ρ g cl) (hgf:g<=fl):∀ (l:List Oper) (k:Nat),(∀ i o,l[i]?=some o->os[k+i]?=some o) ->
  Zpg r P ρ g fl nt (ops ys cl fl (l.map fun o=>Zdi P nt os o .nm)) (fun Q a w=>wpOpsIn (WF r) 0 P os Q (List.range' k l.length) a w)
 | [],k,_,t,h,n,e,t',h',n',hr,hf=>by
  obtain⟨rfl,rfl,rfl,rfl⟩:=brIs_nx.1 (show Zdb (.nx t h n) e t' h' n' from hr)
  exact⟨Ab.refl _ _ _,fun a m w F s _ base mk Q hQ=>hQ a w m mk F (Tr.refl s)⟩
 | o::l,k,hl,t,h,n,e,t',h',n',hr,hf=>by
  have ih:=Yc9 (r:=r) hy hcl hgf l (k+1) (fun i o' hi=>by have:=hl (i+1) o' (by simpa using hi);rw[show k+1+i=k+(i+1) by omega];exact this)
  have ho:os[k]?=some o:=by simpa using hl 0 o (by simp)
  have hr1:Zdb (Yus (Zdi P nt os o .nm) ys cl fl (ops ys cl fl (l.map fun o=>Zdi P nt os o .nm)) t h n) e t' h' n':=hr
  unfold Zdi at hr1
  split at hr1
  case h_2=>
   have:Zdb (Zub .no t (step Zh8 ys cl fl 1152921504606846976 t h n) (ops ys cl fl (l.map fun o=>Zdi P nt os o .nm))) e t' h' n':=hr1
   cases hb:step Zh8 ys cl fl 1152921504606846976 t h n with
   | ok a b c=>exact absurd hb (fun q=>Zhj q)
   | bad l=>rw[hb] at this;exact absurd this Zb3
  case h_1 d q hd hgq=>
   have hr2:Zdb (Ync ys cl fl d ((Zaz P nt o.op).getD Zh8) (ops ys cl fl (l.map fun o=>Zdi P nt os o .nm)) t h n (Zkr t q)) e t' h' n':=hr1
   cases hw:Zkr t q with
   | u=>rw[hw] at hr2;exact absurd hr2 Zb3
   | n=>
    rw[hw] at hr2
    have hr3:Zdb (fT (put t d .ud) fun t=>ops ys cl fl (l.map fun o=>Zdi P nt os o .nm) t h n) e t' h' n':=hr2
    rw[Zb4] at hr3
    obtain⟨hab,hk⟩:=ih _ _ _ _ _ _ _ hr3 hf
    refine⟨hab,fun a m w F s fr base mk Q hQ=>?_⟩
    have hwn:=Ycp (o:=o) (os:=os) F hgq hw
    have:=hk (a.put o.dst undef) m w (F.putD hd (r:=.ud) (v:=undef) rfl) s fr base (by rw[Zf4];exact mk) Q (fun a' w' m' h1 h2 h3=>hQ a' w' m' h1 h2 h3)
    show wpOpsIn (WF r) 0 P os Q (k::List.range' (k+1) l.length) a w
    rw[wpOpsIn_cons]
    simp only[wpOpIn,ho,hwn]
    exact⟨fun _ _=>trivial,this⟩
   | y=>
    rw[hw] at hr2
    have hr3:Zdb (Zub d t (step ((Zaz P nt o.op).getD Zh8) ys cl fl 1152921504606846976 t h n) (ops ys cl fl (l.map fun o=>Zdi P nt os o .nm))) e t' h' n':=hr2
    cases hst:step ((Zaz P nt o.op).getD Zh8) ys cl fl 1152921504606846976 t h n with
    | bad l=>rw[hst] at hr3;exact absurd hr3 Zb3
    | ok v h1 n1=>
     rw[hst] at hr3
     have hr4:Zdb (fT (put t d v) fun t=>ops ys cl fl (l.map fun o=>Zdi P nt os o .nm) t h1 n1) e t' h' n':=hr3
     rw[Zb4] at hr4
     cases hc:Zaz P nt o.op with
     | none=>rw[hc] at hst;exact absurd hst (fun q=>Zhj q)
     | some rp=>
      rw[hc] at hst
      have hst2:step rp ys cl fl 1152921504606846976 t h n=.ok v h1 n1:=hst
      have habn:Ab fl h n h1 n1:=by
       exact Zpx (ClOk.ab hcl) hgf _ _ _ _ _ hst2 hf
      obtain⟨hab,hk⟩:=ih _ _ _ _ _ _ _ hr4 (Nat.le_trans hf habn.le)
      refine⟨habn.trans hab,fun a m w F s fr base mk Q hQ=>?_⟩
      have hwy:=Yco (o:=o) (os:=os) F hgq hw
      obtain⟨_,hop⟩:=Zpw (o:=o) hy hcl F s hgf hf hc hst2
      show wpOpsIn (WF r) 0 P os Q (k::List.range' (k+1) l.length) a w
      rw[wpOpsIn_cons]
      simp only[wpOpIn,ho,hwy,if_true]
      refine hop (fr.left hab.le) _ Q (fun u w1 m1 T hu=>?_) r
      refine hk (a.put o.dst u) m1 w1 ((F.le (T.le (fr.left hab.le))).putD hd hu) T.sim (fr.right T.ext habn.le) base (by rw[Zf4];exact mk.next T) Q fun a' w' m' h1 h2 h3=>hQ a' w' m' h1 h2 (T.trans h3 habn.le hab.le)
end Go.Rn
