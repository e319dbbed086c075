/-
  One text of a symbolic evaluator over the model, shown sound once for every program: no statement is claimed here.
-/
import Derived.Test.YthfaoceleaaepaaGreatDoorRnQ
namespace Go.Rn
variable {g fl n n' nt lim:Nat} {h h':HT} {t:FT} {v:RV} {ys:Ys} {cl:Cl'}
abbrev Hn:=HT→Nat→SR
section
variable (C:Hn→Prop) {d:Hn}
theorem c_gB {x:RV} {k:Bool→Hn} (hd:C d) (hk:∀ b,C (k b)):C (fun h n=>gB (d h n) x (fun b=>k b h n)):=by cases x <;> first | exact hd | exact hk _
theorem c_gI {x:RV} {k:IntKind→Int→Hn} (hd:C d) (hk:∀ a b,C (k a b)):C (fun h n=>gI (d h n) x (fun a b=>k a b h n)):=by cases x <;> first | exact hd | exact hk _ _
theorem c_gY {x:RV} {k:IntKind→SE→Hn} (hd:C d) (hk:∀ a b,C (k a b)):C (fun h n=>gY (d h n) x (fun a b=>k a b h n)):=by cases x <;> first | exact hd | exact hk _ _
theorem c_gS {x:RV} {k:List Nat→Hn} (hd:C d) (hk:∀ b,C (k b)):C (fun h n=>gS (d h n) x (fun b=>k b h n)):=by cases x <;> first | exact hd | exact hk _
theorem c_gP {x:RV} {k:Nat→Nat→Hn} (hd:C d) (hk:∀ a b,C (k a b)):C (fun h n=>gP (d h n) x (fun a b=>k a b h n)):=by cases x <;> first | exact hd | exact hk _ _
theorem c_gF {x:RV} {k:Nat→RV→Hn} (hd:C d) (hk:∀ a b,C (k a b)):C (fun h n=>gF (d h n) x (fun a b=>k a b h n)):=by cases x <;> first | exact hd | exact hk _ _
theorem c_gA {x:RV} {k:RV→Hn} (hd:C d) (hk:∀ a,C (k a)):C (fun h n=>gA (d h n) x (fun a=>k a h n)):=by cases x <;> first | exact hd | exact hk _
theorem c_gT {x:RV} {k:RV→Hn} (hd:C d) (hk:∀ a,C (k a)):C (fun h n=>gT (d h n) x (fun a=>k a h n)):=by cases x <;> first | exact hd | exact hk _
theorem c_nU {x:RV} {k:RV→Hn} (hd:C d) (hk:∀ a,C (k a)):C (fun h n=>nU (d h n) x (fun a=>k a h n)):=by cases x <;> first | exact hd | exact hk _
theorem c_gC {x:RV} {k:RV→Hn} (hd:C d) (hk:∀ a,C (k a)):C (fun h n=>gC (d h n) x (fun a=>k a h n)):=by cases x <;> first | exact hd | exact hk _
theorem c_gO {β:Type} {x:Option β} {k:β→Hn} (hd:C d) (hk:∀ a,C (k a)):C (fun h n=>gO (d h n) x (fun a=>k a h n)):=by cases x <;> first | exact hd | exact hk _
theorem c_gL {x:RV} {k0:Hn} {k1 k2:Nat→Nat→Nat→Nat→Hn} {k3:Nat→Nat→Hn} (hd:C d) (h0:C k0) (h1:∀ a b c d,C (k1 a b c d)) (h2:∀ a b c d,C (k2 a b c d)) (h3:∀ a b,C (k3 a b)) :
  C (fun h n=>gL (d h n) x (k0 h n) (fun a b c d=>k1 a b c d h n) (fun a b c d=>k2 a b c d h n) (fun a b=>k3 a b h n)):=by cases x <;> first | exact hd | exact h0 | exact h1 _ _ _ _ | exact h2 _ _ _ _ | exact h3 _ _
theorem c_gN {x:RV} {k0:Hn} {k1:RV→RV→Hn} (hd:C d) (h0:C k0) (h1:∀ a b,C (k1 a b)):C (fun h n=>gN (d h n) x (k0 h n) (fun a b=>k1 a b h n)):=by cases x <;> first | exact hd | exact h0 | exact h1 _ _
theorem c_bf {b:Bool} {k:Hn} (hd:C d) (hk:C k):C (fun h n=>bf b (d h n) (k h n)):=by cases b <;> first | exact hd | exact hk
theorem c_okV {x:RV} {why:Nat} (hd:C (fun _ _=>.bad [why])) (hk:∀ v,C (fun h n=>.ok v h n)):C (fun h n=>okV x h n why):=c_nU C hd hk
theorem c_ixN {x:RV} {l:Nat} {k:Nat→Hn} (hd:∀ l,C (fun _ _=>.bad l)) (hk:∀ a,C (k a)):C (fun h n=>ixN x l (fun a=>k a h n)):=
 c_gI C (hd _) fun _ _=>c_bf C (c_bf C (hk _) (hd _)) (hd _)
theorem c_partC {b:Bool} {c:RV} {off m:Nat} (hd:∀ l,C (fun _ _=>.bad l)) (hk:∀ v,C (fun h n=>.ok v h n)):C (fun h n=>partC b c off m h n):=
 c_bf C (c_nU C (hd _) fun _=>hk _) (c_okV C (hd _) hk)
end
def Qt (F:Hn):Prop:=(∃ v,∀ h n,F h n=.ok v h n) ∨ ∀ h n,∃ l,F h n=.bad l
theorem qt_bad (l:List Nat):Qt (fun _ _=>.bad l):=.inr fun _ _=>⟨l,rfl⟩
theorem qt_ok (v:RV):Qt (fun h n=>.ok v h n):=.inl ⟨v,fun _ _=>rfl⟩
theorem c_gM (C:Hn→Prop) {d:Hn} {v:RV} {k:Nat→Hn} (h0:C d) (h1:∀ b,C (k b)):C (fun h n=>gM (d h n) v fun b=>k b h n):=by
 cases v <;> first | exact h0 | exact h1 _
def Mk (F:Hn):Prop:=(∃ (f:Nat→RV) (x:RB),∀ h n,F h n=.ok (f n) (hst h x n) (n + 1)) ∨ ∀ h n,∃ l,F h n=.bad l
theorem mk_bad (l:List Nat):Mk (fun _ _=>.bad l):=.inr fun _ _=>⟨l,rfl⟩
theorem mk_newCh (c:RV) (f:Nat→RV):Mk (fun h n=>newCh h n c (f n)):=by
 unfold newCh
 refine c_gO Mk (mk_bad _) fun z=>?_
 cases hz:Nat.beq z MAPZ with
 | true=>
  refine .inr fun h n=>⟨[119],?_⟩
  show newBlk h n (lay c ce 0) z (f n)=_
  unfold newBlk
  rw [hz]
  rfl
 | false=>
  refine .inl ⟨f,.bk (lay c ce 0) z,fun h n=>?_⟩
  show newBlk h n (lay c ce 0) z (f n)=_
  unfold newBlk
  rw [hz,fT_eq,fT_eq]
  rfl
def Tu (fl:Nat) (F:Hn):Prop:=∀ h n v h' n',F h n=.ok v h' n'→fl≤n→Ab fl h n h' n'
theorem tu_bad (l:List Nat):Tu fl (fun _ _=>.bad l):=fun _ _ _ _ _ e=>by cases e
theorem tu_ok (v:RV):Tu fl (fun h n=>.ok v h n):=fun _ _ _ _ _ e _=>by cases e; exact Ab.refl _ _ _
theorem Qt.tu {F:Hn} (q:Qt F):Tu fl F:=fun h n v h' n' e _=>by
 rcases q with ⟨u,q⟩ | q
 ·rw [q] at e; cases e; exact Ab.refl _ _ _
 ·obtain ⟨l,q⟩:=q h n; rw [q] at e; cases e
theorem Mk.tu {F:Hn} (q:Mk F):Tu fl F:=fun h n v h' n' e hf=>by
 rcases q with ⟨u,x,q⟩ | q
 ·rw [q] at e; cases e; exact Ab.new _ hf
 ·obtain ⟨l,q⟩:=q h n; rw [q] at e; cases e
theorem tu_newBlk (cs:CT) (z:Nat) (f:Nat→RV):Tu fl (fun h n=>newBlk h n cs z (f n)):=fun h n v h' n' e hf=>by
 have e1:newBlk h n cs z (f n)=.ok v h' n':=e
 obtain ⟨_,rfl,rfl,rfl⟩:=newBlk_ok4 e1
 exact Ab.new _ hf
theorem tu_stBlk (b k:Nat) (c:RV):Tu fl (fun h n=>stBlk fl h b k c n):=fun h n v h' n' e hf=>by
 have e1:stBlk fl h b k c n=.ok v h' n':=e
 unfold stBlk at e1
 obtain ⟨h1,e2⟩:=bf_ok e1 (by simp)
 obtain ⟨cs,z,hb,e3⟩:=gK_ok e2 (by simp)
 obtain ⟨c',hov,e4⟩:=gO_ok e3 (by simp)
 rw [fT_eq] at e4
 cases e4
 exact Ab.set _ (ble_ok h1) (fun _ _ _=>⟨_,_,hb⟩)
theorem tu_gR {F:Hn} {k:RV→Hn} (hF:Tu fl F) (hk:∀ v,Tu fl (k v)):Tu fl (fun h n=>gR (F h n) (fun v h n=>k v h n)):=fun h n v h' n' e hf=>by
 obtain ⟨v1,h1,n1,e1,e2⟩:=gR_ok (show gR (F h n) (fun v h n=>k v h n)=.ok v h' n' from e)
 have a:=hF _ _ _ _ _ e1 hf
 exact a.trans (hk v1 _ _ _ _ _ e2 (Nat.le_trans hf a.le))
theorem tu_stSl (x c v:RV):Tu fl (fun h n=>stSl fl x c h n v):=by
 unfold stSl
 refine c_gL (Tu fl) (tu_bad _) (tu_bad _) (fun b o _ _=>?_) (fun b o _ _=>?_) (fun _ _=>tu_bad _)
 ·exact tu_gR (tu_stBlk b o c) fun _=>c_okV (Tu fl) (tu_bad _) tu_ok
 ·exact tu_gR (tu_stBlk b o c) fun _=>c_okV (Tu fl) (tu_bad _) tu_ok
theorem tu_kill {b:Nat} (hb:fl≤b) {h:HT} {n:Nat}:Ab fl h n (hst h .no b) n:=Ab.set .no hb (fun _ _ e=>by cases e)
theorem appC_ab {es q:Nat} {x y:RV} {h h':HT} {n n':Nat} {v:RV} (e6:appC fl es x q y h n=.ok v h' n') (hf:fl≤n):Ab fl h n h' n':=by
 have growC_ab:∀ {es b o l:Nat} {y:RV} {q:Nat} {kill h0:HT},(kill=h0 ∨ ∃ b,fl≤b∧kill=hst h0 .no b)→growC h n es b o l y q kill=.ok v h' n'→Ab fl h0 n h' n':=by
  intro es b o l y q kill h0 hk e
  unfold growC at e
  obtain ⟨_,e2⟩:=nU_ok e (by simp)
  have:=tu_newBlk (fl:=fl) _ _ (fun n=>.su n 0 (Nat.add l q) es) _ _ _ _ _ e2 hf
  rcases hk with rfl | ⟨b,hb,rfl⟩
  ·exact this
  ·exact (tu_kill hb).trans this
 unfold appC at e6
 rcases gL_ok e6 (by simp) with ⟨_,e7⟩ | ⟨b,k,l',c',_,e7⟩ | ⟨b,k,l',f,_,e7⟩ | ⟨b,f,_,e7⟩
 ·exact tu_newBlk _ _ (fun n=>.su n 0 q es) _ _ _ _ _ e7 hf
 ·rcases bf_or e7 with ⟨_,e8⟩ | ⟨_,e8⟩
  ·exact tu_gR (fl:=fl) (tu_stBlk b _ _) (fun _=>tu_ok _) _ _ _ _ _ e8 hf
  ·rcases bf_or e8 with ⟨_,e9⟩ | ⟨_,e9⟩
   ·exact tu_newBlk _ _ (fun n=>.su n 0 q es) _ _ _ _ _ e9 hf
   ·exact growC_ab (.inl rfl) e9
 ·obtain ⟨_,e8⟩:=bf_ok e7 (by simp)
  rcases bf_or e8 with ⟨_,e9⟩ | ⟨_,e8⟩
  ·exact tu_gR (fl:=fl) (tu_stBlk b _ _) (fun _=>tu_ok _) _ _ _ _ _ e9 hf
  obtain ⟨hb,e9⟩:=bf_ok e8 (by simp)
  unfold growU at e9
  obtain ⟨c,z,_,e10⟩:=gK_ok e9 (by simp)
  rcases bf_or e10 with ⟨_,e11⟩ | ⟨_,e11⟩
  ·exact (tu_kill (ble_ok hb)).trans (tu_newBlk (fl:=fl) _ _ (fun n=>.su n 0 (Nat.add l' q) es) _ _ _ _ _ e11 hf)
  ·exact growC_ab (.inr ⟨b,ble_ok hb,rfl⟩) e11
 ·obtain ⟨_,e8⟩:=bf_ok e7 (by simp)
  obtain ⟨hb,e9⟩:=bf_ok e8 (by simp)
  obtain ⟨c,z,_,e10⟩:=gK_ok e9 (by simp)
  exact (tu_kill (ble_ok hb)).trans (tu_newBlk (fl:=fl) _ _ (fun n=>.su n 0 q es) _ _ _ _ _ e10 hf)
theorem app_ab {es:Nat} {x y:RV} {h h':HT} {n n':Nat} {v:RV} (e:app fl es x y h n=.ok v h' n') (hf:fl≤n):Ab fl h n h' n':=by
 unfold app at e
 obtain ⟨q,_,e1⟩:=gO_ok e (by simp)
 rcases bf_or e1 with ⟨_,e2⟩ | ⟨_,e2⟩
 ·obtain ⟨_,_,e3⟩:=gO_ok e2 (by simp)
  obtain ⟨_,_,rfl,rfl⟩:=okV_ok e3
  exact Ab.refl _ _ _
 ·obtain ⟨_,e3⟩:=bf_ok e2 (by simp)
  obtain ⟨_,e4⟩:=nU_ok e3 (by simp)
  obtain ⟨l,_,e5⟩:=gO_ok e4 (by simp)
  obtain ⟨_,e6⟩:=bf_ok e5 (by simp)
  exact appC_ab e6 hf
def ClAb (g:Nat) (cl:Cl'):Prop:=∀ f c fl h n v h' n',cl f c fl h n=.ok v h' n'→g≤fl→fl≤n→Ab fl h n h' n'
theorem wide_ab {l:List Nat} {h h':HT} {n n':Nat} {v:RV} (e:wide h n l=.ok v h' n') (hf:fl≤n):Ab fl h n h' n':=by
 unfold wide at e
 rw [fT_eq,fT_eq] at e
 cases e
 exact Ab.new _ hf
theorem appW_ab {es:Nat} {x y:RV} {h h':HT} {n n':Nat} {v:RV} (e:appW fl es x y h n=.ok v h' n') (hf:fl≤n):Ab fl h n h' n':=by
 unfold appW at e
 rcases gS_or e with ⟨r,_,e1⟩ | e1
 case inr=>exact app_ab e1 hf
 ·rcases gW_or e1 with e2 | ⟨b,l,c,_,_,_,e2⟩
  ·exact app_ab e2 hf
  ·obtain ⟨_,e3⟩:=bf_ok e2 (by simp)
   obtain ⟨hb,e4⟩:=bf_ok e3 (by simp)
   obtain ⟨_,e5⟩:=bf_ok e4 (by simp)
   exact (tu_kill (ble_ok hb)).trans (wide_ab e5 hf)
theorem rdW_ab {x:RV} {h h':HT} {n n':Nat} {v:RV} (e:rdW x h n=.ok v h' n'):Ab fl h n h' n':=by
 unfold rdW at e
 rcases gW_or e with e1 | ⟨b,l,c,_,_,_,e1⟩
 ·unfold rdS at e1
  obtain ⟨q,_,e2⟩:=gO_ok e1 (by simp)
  obtain ⟨_,e3⟩:=bf_ok e2 (by simp)
  obtain ⟨_,e4⟩:=nU_ok e3 (by simp)
  obtain ⟨l,_,e5⟩:=gO_ok e4 (by simp)
  cases e5
  exact Ab.refl _ _ _
 ·cases e1
  exact Ab.refl _ _ _
theorem step_pure {o:RP} (hc:cls o=.pure):Qt (fun h n=>step o ys cl fl lim t h n):=by
 cases o <;> first | (cases hc; done) | skip
 case mv x=>exact c_okV Qt (qt_bad _) qt_ok
 case pick=>exact c_gB Qt (qt_bad _) fun _=>c_okV Qt (qt_bad _) qt_ok
 case bd=>exact c_nU Qt (qt_bad _) fun _=>qt_ok _
 case nc=>exact c_gP Qt (c_gF Qt (qt_bad _) fun _ _=>c_bf Qt (c_gN Qt (qt_bad _) (qt_bad _) fun _ _=>qt_ok _) (qt_ok _)) fun _ _=>qt_ok _
 case ta ty z two x=>
  have no:Qt (fun h n=>taNo z two h n):=c_bf Qt (c_nU Qt (qt_bad _) fun _=>qt_ok _) (qt_bad _)
  have yes:∀ v,Qt (fun h n=>taYes two v h n):=fun v=>c_nU Qt (qt_bad _) fun _=>c_bf Qt (qt_ok _) (qt_ok _)
  exact c_gF Qt (qt_bad _) fun _ _=>c_bf Qt (c_gN Qt (qt_bad _) no fun _ _=>c_gN Qt (qt_bad _) (c_gN Qt (qt_bad _) (qt_bad _) fun _ _=>c_gN Qt (qt_bad _) (c_bf Qt (yes _) no) fun _ _=>qt_bad _) fun _ _=>qt_bad _) (qt_bad _)
 case bn=>exact c_okV Qt (qt_bad _) qt_ok
 case bq=>exact c_gB Qt (qt_bad _) fun _=>c_gB Qt (qt_bad _) fun _=>qt_ok _
 case se=>exact c_bf Qt (c_gB Qt (qt_bad _) fun _=>qt_ok _) (c_gA Qt (qt_bad _) fun _=>c_gA Qt (qt_bad _) fun _=>c_gB Qt (qt_bad _) fun _=>qt_ok _)
 case nq=>exact c_gO Qt (qt_bad _) fun _=>c_gO Qt (qt_bad _) fun _=>c_bf Qt (c_bf Qt (qt_ok _) (c_bf Qt (qt_ok _) (qt_bad _))) (qt_bad _)
 case ng=>exact c_gI Qt (c_gY Qt (qt_bad _) fun _ _=>qt_ok _) fun _ _=>c_okV Qt (qt_bad _) qt_ok
 case nt=>exact c_gB Qt (qt_bad _) fun _=>qt_ok _
 case cv=>exact c_gI Qt (qt_bad _) fun _ _=>c_okV Qt (qt_bad _) qt_ok
 case mf=>exact c_nU Qt (qt_bad _) fun _=>qt_ok _
 case sc=>exact c_gO Qt (qt_bad _) fun _=>c_gO Qt (qt_bad _) fun _=>c_gO Qt (qt_bad _) fun _=>c_gO Qt (c_okV Qt (qt_bad _) qt_ok) fun _=>c_gO Qt (qt_bad _) fun _=>c_okV Qt (qt_bad _) qt_ok
 case ss=>exact c_gS Qt (qt_bad _) fun _=>c_gO Qt (qt_bad _) fun _=>c_gO Qt (qt_bad _) fun _=>c_bf Qt (c_bf Qt (qt_ok _) (qt_bad _)) (qt_bad _)
 case sa=>exact c_gP Qt (qt_bad _) fun _ _=>c_gO Qt (qt_bad _) fun _=>c_gO Qt (qt_bad _) fun _=>c_okV Qt (qt_bad _) qt_ok
 case fa=>exact c_gP Qt (qt_bad _) fun _ _=>qt_ok _
 case fd=>exact c_gA Qt (qt_bad _) fun _=>c_partC Qt qt_bad qt_ok
 case ia=>exact c_gL Qt (qt_bad _) (qt_bad _) (fun _ _ _ _=>c_ixN Qt qt_bad fun _=>qt_ok _) (fun _ _ _ _=>c_ixN Qt qt_bad fun _=>qt_ok _) (fun _ _=>qt_bad _)
 case ip=>exact c_gP Qt (qt_bad _) fun _ _=>c_ixN Qt qt_bad fun _=>qt_ok _
 case ix=>exact c_gA Qt (qt_bad _) fun _=>c_ixN Qt qt_bad fun _=>c_partC Qt qt_bad qt_ok
 case sx=>exact c_gS Qt (qt_bad _) fun _=>c_ixN Qt qt_bad fun _=>c_gO Qt (qt_bad _) fun _=>qt_ok _
 case ex=>exact c_gT Qt (qt_bad _) fun _=>c_okV Qt (qt_bad _) qt_ok
 case ln=>exact c_bf Qt (c_gS Qt (qt_bad _) fun _=>c_okV Qt (qt_bad _) qt_ok) (c_gO Qt (qt_bad _) fun _=>c_okV Qt (qt_bad _) qt_ok)
 case cp=>exact c_gL Qt (qt_bad _) (qt_ok _) (fun _ _ _ _=>qt_ok _) (fun _ _ _ _=>qt_bad _) (fun _ _=>qt_bad _)
 case mm=>exact c_gI Qt (qt_bad _) fun _ _=>c_gI Qt (qt_bad _) fun _ _=>c_bf Qt (c_okV Qt (qt_bad _) qt_ok) (qt_bad _)
 case fg=>exact qt_ok _
theorem step_alloc {o:RP} (hc:cls o=.alloc):Mk (fun h n=>step o ys cl fl lim t h n):=by
 cases o <;> first | (cases hc; done) | skip
 case al z=>exact mk_newCh z (fun n=>.p n 0)
 case bx x=>exact c_gC Mk (mk_bad _) fun c=>mk_newCh c (fun n=>.p n 0)
 case bs z len ps=>exact c_nU Mk (mk_bad _) fun c=>mk_newCh c (fun n=>.sl n 0 len len)
 case ms z l c=>exact c_gI Mk (mk_bad _) fun _ a=>c_gI Mk (mk_bad _) fun _ b=>c_bf Mk (c_bf Mk (c_bf Mk (c_bf Mk (c_bf Mk (mk_newCh _ (fun n=>.sl n 0 (natI a) (natI b))) (mk_bad _)) (mk_bad _)) (mk_bad _)) (mk_bad _)) (mk_bad _)
 case mk=>exact .inl ⟨fun n=>.mp n,.bk (cst ce (.i .i64 (.ofNat 0)) 0) MAPZ,fun h n=>by
  show fT (cst ce (.i .i64 (.ofNat 0)) 0) (fun cs=>fT (hst h (.bk cs MAPZ) n) fun h=>SR.ok (.mp n) h (Nat.succ n))=_
  rw [fT_eq,fT_eq]⟩
theorem step_load {gg:Bool} {q:Nat} {x:RO} (e:step (.ld gg q x) ys cl fl lim t h n=.ok v h' n') :
  h'=h∧n'=n∧∃ b o c z,ev t x=.p b o∧b < lim∧hg h b=.bk c z∧rdV gg q c o=v∧v ≠ .un∧z ≠ MAPZ:=by
 have e1:gP (.bad [10]) (ev t x) (fun b o=>bf (Nat.ble (Nat.succ b) lim) (gK (.bad [7]) (hg h b) fun cs _=>ldC gg q cs o h n) (.bad [11]))=.ok v h' n':=e
 obtain ⟨b,k,hb,e2⟩:=gP_ok e1 (by simp)
 obtain ⟨hl,e3⟩:=bf_ok e2 (by simp)
 obtain ⟨c,z,hbk,e4⟩:=gK_ok e3 (by simp)
 have hmz:=gK_mz e3 (by simp) hbk
 have hl2:=ble_ok hl
 cases gg with
 | true=>
  have e5:nU (SR.bad [8]) (rd c q k) (fun c=>SR.ok (.agg c) h n)=.ok v h' n':=e4
  obtain ⟨hu,e6⟩:=nU_ok e5 (by simp)
  cases e6
  refine ⟨rfl,rfl,b,k,c,z,hb,hl2,hbk,?_,by simp,hmz⟩
  show nU RV.un (rd c q k) (fun c=>RV.agg c)=_
  cases hx:rd c q k <;> first | rfl | exact absurd hx hu
 | false=>
  have e5:okV (cg c k) h n 9=.ok v h' n':=e4
  obtain ⟨hu,rfl,rfl,rfl⟩:=okV_ok e5
  exact ⟨rfl,rfl,b,k,c,z,hb,hl2,hbk,rfl,hu,hmz⟩
theorem load_step {gg:Bool} {q:Nat} {x:RO} {b o z:Nat} {c:CT} (h1:ev t x=.p b o) (h2:b < lim) (h3:hg h b=.bk c z) (h4:rdV gg q c o=v) (h5:v ≠ .un) (hmz:z ≠ MAPZ) :
  step (.ld gg q x) ys cl fl lim t h n=.ok v h n:=by
 show gP (.bad [10]) (ev t x) (fun b o=>bf (Nat.ble (Nat.succ b) lim) (gK (.bad [7]) (hg h b) fun cs _=>ldC gg q cs o h n) (.bad [11]))=.ok v h n
 rw [h1]
 show bf (Nat.ble (Nat.succ b) lim) (gK (.bad [7]) (hg h b) fun cs _=>ldC gg q cs o h n) (.bad [11])=.ok v h n
 have:Nat.ble (Nat.succ b) lim=true:=Nat.ble_eq_true_of_le h2
 rw [this,h3]
 have hz:Nat.beq z MAPZ=false:=by
  cases hq:Nat.beq z MAPZ with
  | false=>rfl
  | true=>exact absurd (beq_ok hq) hmz
 show bf (Nat.beq z MAPZ) (SR.bad [7]) (ldC gg q c o h n)=_
 rw [hz]
 show ldC gg q c o h n=_
 cases gg with
 | true=>
  have e:nU RV.un (rd c q o) (fun c=>RV.agg c)=v:=h4
  obtain ⟨hu,e2⟩:=nU_ok e (fun q=>h5 q.symm)
  show nU (SR.bad [8]) (rd c q o) (fun c=>SR.ok (.agg c) h n)=_
  rw [← e2]
  cases hx:rd c q o <;> first | rfl | exact absurd hx hu
 | false=>
  have e:cg c o=v:=h4
  show nU (SR.bad [9]) (cg c o) (fun v=>SR.ok v h n)=_
  rw [e]
  cases v <;> first | rfl | exact absurd rfl h5
theorem step_ab (hcl:ClAb g cl) (hgf:g≤fl) {o:RP}:Tu fl (fun h n=>step o ys cl fl lim t h n):=by
 cases hc:cls o with
 | pure=>exact (step_pure hc).tu
 | alloc=>exact (step_alloc hc).tu
 | load=>
  cases o <;> first | (cases hc; done) | skip
  case ld gg q x=>exact fun h n v h' n' e _=>by obtain ⟨rfl,rfl,_⟩:=step_load e; exact Ab.refl _ _ _
 | eff=>
  cases o <;> first | (cases hc; done) | skip
  case st q x y=>exact c_gP (Tu fl) (tu_bad _) fun b o=>c_gC (Tu fl) (tu_bad _) fun c=>c_gO (Tu fl) (tu_bad _) fun q=>c_bf (Tu fl) (tu_stBlk b o c) (tu_bad _)
  case cl f as=>exact c_nU (Tu fl) (tu_bad _) fun c h n v h' n' e hf=>hcl f c fl h n v h' n' e hgf hf
  case cf x as=>exact c_gF (Tu fl) (tu_bad _) fun f c=>c_nU (Tu fl) (tu_bad _) fun a=>c_bf (Tu fl) (c_gN (Tu fl) (tu_bad _) (tu_bad _) fun y r=>c_bf (Tu fl) (c_gN (Tu fl) (tu_bad _) (fun h n v h' n' e hf=>hcl _ _ fl h n v h' n' e hgf hf) fun _ _=>tu_bad _) (c_nU (Tu fl) (tu_bad _) fun c h n v h' n' e hf=>hcl _ _ fl h n v h' n' e hgf hf)) (c_nU (Tu fl) (tu_bad _) fun c h n v h' n' e hf=>hcl f c fl h n v h' n' e hgf hf)
  case pq neg x y=>
   refine fun h n v h' n' e _=>?_
   obtain ⟨_,e2⟩:=bf_ok (show bf (bf (Nat.beq (kOf (ev t x)) 12) (bf (Nat.beq (kOf (ev t y)) 12) (bf (alive fl h (ev t x)) (alive fl h (ev t y)) false) false) false)
    (SR.ok (mkB (eqB neg (notB (kEq (ev t x) (ev t y))))) h n) (.bad [197])=.ok v h' n' from e) (by simp)
   cases e2
   exact Ab.refl _ _ _
  case b2 st x=>exact c_bf (Tu fl) (c_gS (Tu fl) (tu_bad _) fun l h n v h' n' e hf=>wide_ab e hf) (fun h n v h' n' e _=>rdW_ab e)
  case iv l x as=>
   refine fun h n v h' n' e hf=>?_
   obtain ⟨f,_,h1⟩:=gIf_ok (show gIf (.bad [189]) (ev t x) (.bad [190]) (fun f v=>ivL f l v h n fun g r=>nU (.bad [191]) (evL t as) fun a=>cl g (.cons r a) fl h n)=.ok v h' n' from e)
   rcases h1 with ⟨_,e2⟩ | ⟨y,_,e2⟩
   ·cases e2
   ·obtain ⟨_,g0,_,_,_,_,r,_,_,_,_,_,e3⟩:=ivL_ok e2
    obtain ⟨_,e4⟩:=nU_ok e3 (by simp)
    exact hcl g0 _ fl h n v h' n' e4 hgf hf
  case ap es x y=>exact fun h n v h' n' e hf=>appW_ab (show appW fl es (ev t x) (ev t y) h n=.ok v h' n' from e) hf
  case cy es x y=>
   refine c_gO (Tu fl) (tu_bad _) fun a h n v h' n' e hf=>?_
   obtain ⟨b,_,e2⟩:=gO_ok (d:=SR.bad [78]) e (by simp)
   rcases bf_or e2 with ⟨_,e3⟩ | ⟨_,e3⟩
   ·cases e3; exact Ab.refl _ _ _
   ·obtain ⟨_,e4⟩:=nU_ok e3 (by simp)
    exact tu_stSl _ _ _ _ _ _ _ _ e4 hf
  case cr z x=>exact c_gO (Tu fl) (tu_bad _) fun l=>c_bf (Tu fl) (tu_ok _) (c_nU (Tu fl) (tu_bad _) fun c=>tu_stSl _ _ _)
  case az es z x y=>
   refine fun h n v h' n' e hf=>?_
   obtain ⟨j,a,_,e3⟩:=gI_ok (show gI (.bad [171]) (ev t y) (fun j a=>bf (is64 j) (bf (nonI a) (bf (Nat.ble (natI a) 65536) (gO (.bad [170]) (slLen (ev t x)) fun l=>bf (Nat.beq (natI a) 0) (okV (ev t x) h n 172)
    (bf (Nat.ble l 1048576) (nU (.bad [177]) (rep z (natI a)) fun c=>gO (.bad [176]) (chLen c) fun q=>bf (Nat.beq q (Nat.mul (natI a) es)) (appC fl es (ev t x) (natI a) c h n) (.bad [179])) (.bad [178]))) (.bad [173])) (.bad [174])) (.bad [175]))=.ok v h' n' from e) (by simp)
   obtain ⟨_,e4⟩:=bf_ok e3 (by simp)
   obtain ⟨_,e5⟩:=bf_ok e4 (by simp)
   obtain ⟨_,e6⟩:=bf_ok e5 (by simp)
   obtain ⟨_,_,e7⟩:=gO_ok e6 (by simp)
   rcases bf_or e7 with ⟨_,e8⟩ | ⟨_,e8⟩
   ·obtain ⟨_,rfl,rfl,rfl⟩:=okV_ok e8
    exact Ab.refl _ _ _
   ·obtain ⟨_,e9⟩:=bf_ok e8 (by simp)
    obtain ⟨_,e10⟩:=nU_ok e9 (by simp)
    obtain ⟨_,_,e11⟩:=gO_ok e10 (by simp)
    obtain ⟨_,e12⟩:=bf_ok e11 (by simp)
    exact appC_ab e12 hf
  case mi q m k x=>
   refine c_gM (Tu fl) (tu_bad _) fun b h n v h' n' e hf=>?_
   obtain ⟨hb,e2⟩:=bf_ok (d:=SR.bad [138]) e (by simp)
   obtain ⟨c,hc,e3⟩:=gMK_ok e2 (by simp)
   obtain ⟨sz,_,e4⟩:=gO_ok e3 (by simp)
   obtain ⟨_,e5⟩:=bf_ok e4 (by simp)
   obtain ⟨_,e6⟩:=bf_ok e5 (by simp)
   obtain ⟨z,_,e7⟩:=gO_ok e6 (by simp)
   obtain ⟨_,e8⟩:=nU_ok e7 (by simp)
   obtain ⟨_,e9⟩:=nU_ok e8 (by simp)
   rw [fT_eq,fT_eq] at e9
   cases e9
   exact Ab.set _ (ble_ok hb) (fun _ _ _=>⟨_,_,hc⟩)
  case ml q z two m k=>
   refine c_gM (Tu fl) (tu_bad _) fun b h n v h' n' e hf=>?_
   obtain ⟨hb,e2⟩:=bf_ok (d:=SR.bad [145]) e (by simp)
   obtain ⟨c,hc,e3⟩:=gMK_ok e2 (by simp)
   obtain ⟨sz,_,e4⟩:=gO_ok e3 (by simp)
   obtain ⟨_,e6⟩:=bf_ok e4 (by simp)
   obtain ⟨x,_,e7⟩:=gO_ok e6 (by simp)
   unfold mRes at e7
   obtain ⟨_,e8⟩:=nU_ok e7 (by simp)
   rcases bf_or e8 with ⟨_,e9⟩ | ⟨_,e9⟩ <;> cases e9 <;> exact Ab.refl _ _ _
end Go.Rn
namespace Go.Rn
variable {ρ:Nat→Int} {m m':Mp} {P:Program}
variable {g fl n n' nt lim:Nat} {h h':HT} {t:FT} {a:Act} {o:Oper} {w:World} {v:RV} {ys:Ys} {cl:Cl'} {os:Array Oper}
theorem ClOk.ab (hcl:ClOk P ρ g cl):ClAb g cl:=fun f c fl h n v h' n' e h1 h2=>(hcl f c fl h n v h' n' e h1 h2).1
theorem eqB_ok {a b:Bool}:eqB a b=true ↔ a=b:=by cases a <;> cases b <;> decide
theorem put_defers (a:Act) (d:Option Tmp) (u:Value):(a.put d u).defers=a.defers:=by cases d <;> rfl
theorem want_y (F:Fr P ρ m nt t a.tmps) {q:G} (hg:compG os nt o.guard=some q) (e:want t q=.y):Region.wanted o (yielded os a.tmps)=true:=by
 unfold Region.wanted
 cases hx:o.guard with
 | none=>rfl
 | some jw=>
  obtain ⟨j,b⟩:=jw
  rw [hx] at hg
  simp only [compG] at hg
  cases hd:(os[j]?).bind (·.dst) with
  | none=>rw [hd] at hg; cases hg
  | some u=>
   rw [hd] at hg
   simp only at hg
   split at hg
   ·rename_i hu
    cases hg
    have e2:(match tg t (pa 20 (u + 1)) with | .b x=>bf (eqB x b) W3.y .n | .ud=>.n | _=>.u)=.y:=e
    rw [tg_pa (Nat.lt_trans hu F.small)] at e2
    split at e2
    ·rename_i x hx2
     rcases bf_or e2 with ⟨h1,_⟩ | ⟨_,h1⟩
     ·have:=F.slot u (by rw [hx2]; simp)
      rw [hx2] at this
      have hv:a.tmps.getD u undef=.bool x:=this
      have hxb:=eqB_ok.1 h1
      subst hxb
      have hq:a.tmps[u]?=some (.bool x):=by
       rw [Array.getD_eq_getD_getElem?] at hv
       cases hq:a.tmps[u]? with
       | none=>rw [hq] at hv; cases hv
       | some y=>rw [hq] at hv; simp at hv; rw [hv]
      simp [yielded,hd,hq]
     ·cases h1
    ·cases e2
    ·cases e2
   ·cases hg
theorem want_n (F:Fr P ρ m nt t a.tmps) {q:G} (hg:compG os nt o.guard=some q) (e:want t q=.n):Region.wanted o (yielded os a.tmps)=false:=by
 unfold Region.wanted
 cases hx:o.guard with
 | none=>rw [hx] at hg; cases hg; cases e
 | some jw=>
  obtain ⟨j,b⟩:=jw
  rw [hx] at hg
  simp only [compG] at hg
  cases hd:(os[j]?).bind (·.dst) with
  | none=>rw [hd] at hg; cases hg
  | some u=>
   rw [hd] at hg
   simp only at hg
   split at hg
   ·rename_i hu
    cases hg
    have e2:(match tg t (pa 20 (u + 1)) with | .b x=>bf (eqB x b) W3.y .n | .ud=>.n | _=>.u)=.n:=e
    rw [tg_pa (Nat.lt_trans hu F.small)] at e2
    split at e2
    ·rename_i x hx2
     have:=F.slot u (by rw [hx2]; simp)
     rw [hx2] at this
     have hv:a.tmps.getD u undef=.bool x:=this
     have hq:a.tmps[u]?=some (.bool x):=by
      rw [Array.getD_eq_getD_getElem?] at hv
      cases hq:a.tmps[u]? with
      | none=>rw [hq] at hv; cases hv
      | some y=>rw [hq] at hv; simp at hv; rw [hv]
     rcases bf_or e2 with ⟨_,h1⟩ | ⟨h1,_⟩
     ·cases h1
     ·have hne:x ≠ b:=fun q=>by rw [eqB_ok.2 q] at h1; cases h1
      simp [yielded,hd,hq,hne]
    ·rename_i hx2
     have:=F.slot u (by rw [hx2]; simp)
     rw [hx2] at this
     have hv:a.tmps.getD u undef=undef:=this
     have hq:∀ x,a.tmps[u]? ≠ some (.bool x):=fun x hq=>by
      rw [Array.getD_eq_getD_getElem?,hq] at hv; cases hv
     have hy:yielded os a.tmps j=none:=by
      simp only [yielded,hd,Option.bind_some]
     simp [hy]
    ·cases e2
   ·cases hg
def brIs (r:BR) (e:Exit) (t:FT) (h:HT) (n:Nat):Prop:=(r=.nx t h n∧e=.normal) ∨ (∃ id,r=.ex id t h n∧e=.exit id) ∨ (r=.rt t h n∧e=.ret)
theorem brIs_nx {t t':FT} {e:Exit}:brIs (.nx t h n) e t' h' n' ↔ e=.normal∧t'=t∧h'=h∧n'=n:=by
 unfold brIs
 constructor
 ·rintro (⟨q,rfl⟩ | ⟨id,q,_⟩ | ⟨q,_⟩) <;> cases q
  exact ⟨rfl,rfl,rfl,rfl⟩
 ·rintro ⟨rfl,rfl,rfl,rfl⟩; exact .inl ⟨rfl,rfl⟩
theorem brIs_ex {t t':FT} {e:Exit} {id:Nat}:brIs (.ex id t h n) e t' h' n' ↔ e=.exit id∧t'=t∧h'=h∧n'=n:=by
 unfold brIs
 constructor
 ·rintro (⟨q,rfl⟩ | ⟨id,q,rfl⟩ | ⟨q,_⟩) <;> cases q
  exact ⟨rfl,rfl,rfl,rfl⟩
 ·rintro ⟨rfl,rfl,rfl,rfl⟩; exact .inr (.inl ⟨_,rfl,rfl⟩)
theorem brIs_rt {t t':FT} {e:Exit}:brIs (.rt t h n) e t' h' n' ↔ e=.ret∧t'=t∧h'=h∧n'=n:=by
 unfold brIs
 constructor
 ·rintro (⟨q,rfl⟩ | ⟨id,q,_⟩ | ⟨q,rfl⟩) <;> cases q
  exact ⟨rfl,rfl,rfl,rfl⟩
 ·rintro ⟨rfl,rfl,rfl,rfl⟩; exact .inr (.inr ⟨rfl,rfl⟩)
theorem brIs_bad {t':FT} {e:Exit} {l:List Nat}:¬ brIs (.bad l) e t' h' n':=by
 rintro (⟨q,_⟩ | ⟨id,q,_⟩ | ⟨q,_⟩) <;> cases q
def Marks (r:Option Nat) (fl base:Nat) (ds:List Deferred) (h:HT) (m:Mp) (w:World):Prop:=base≤w.heap.size∧(∀ d ∈ ds,∃ D,base≤D∧d={ target:=.collected D,args:=#[] }∧w.heap[D]?=some (.deferred (some []))∧∀ b c z O Z,fl≤b→hg h b=.bk c z→m b ≠ some (D,O,Z)) ∧
 (∀ l,r=some l→∃ rec,w.heap[l]?=some (.loop rec))∧ds.Nodup
theorem Marks.nil {fl:Nat} {h:HT} {m:Mp} {w:World}:Marks none fl w.heap.size [] h m w:=⟨Nat.le_refl _,fun _ h=>(by cases h),fun _ h=>(by cases h),.nil⟩
theorem Marks.next {r:Option Nat} {base:Nat} {ds:List Deferred} {h2:HT} {n2:Nat} {m2:Mp} {w2:World} (k:Marks r fl base ds h m w) (T:Tr P ρ g fl h n m w h2 n2 m2 w2):Marks r fl base ds h2 m2 w2:=⟨Nat.le_trans k.1 T.keep.size,fun d hd=>by
 obtain ⟨D,h0,h1,h3,h4⟩:=k.2.1 d hd
 have hlt:=(Array.getElem?_eq_some_iff.1 h3).1
 refine ⟨D,h0,h1,(T.keep.block D hlt fun b c z O Z e1 e2=>h4 b c z O Z e1 e2).trans h3,fun b c z O Z e1 e2 e3=>?_⟩
 rcases T.orig b c z D O Z e1 e2 e3 with q | ⟨b0,c0,z0,O0,Z0,q1,q2,q3⟩
 ·omega
 ·exact h4 b0 c0 z0 O0 Z0 q1 q2 q3,fun l hl=>(let ⟨r,h⟩:=k.2.2.1 l hl; T.keep.loops l r h),k.2.2.2⟩
def BdOk (r:Option Nat) (P:Program) (ρ:Nat→Int) (g fl nt:Nat) (F:Bd) (W:(Exit→Act→World→Prop)→Act→World→Prop):Prop:=∀ t h n e t' h' n',brIs (F t h n) e t' h' n'→fl≤n →
 Ab fl h n h' n'∧∀ (a:Act) (m:Mp) (w:World),Fr P ρ m nt t a.tmps→Sim P ρ m g h w→Fresh n n' m→∀ base,Marks r fl base a.defers h m w→∀ Q:Exit→Act→World→Prop,
  (∀ a' w' m',Marks r fl base a'.defers h' m' w'→Fr P ρ m' nt t' a'.tmps→Tr P ρ g fl h n m w h' n' m' w'→Q e a' w')→W Q a w
theorem Tr.le {h2:HT} {m2:Mp} {w2:World} {n2:Nat} (T:Tr P ρ g fl h n m w h2 n2 m2 w2) (f:Fresh n n2 m):Le m m2:=T.ext.le f
theorem Fresh.left {n1 n2:Nat} (f:Fresh n n2 m) (l:n1≤n2):Fresh n n1 m:=fun b h1 h2=>f b h1 (Nat.lt_of_lt_of_le h2 l)
theorem Fresh.right {n1 n2:Nat} (f:Fresh n n2 m) (x:Ext n n1 m m') (l:n≤n1):Fresh n1 n2 m':=fun b h1 h2=>by rw [x b (.inr h1)]; exact f b (Nat.le_trans l h1) h2
theorem ops_ok {r:Option Nat} (hy:YsOk ρ ys) (hcl:ClOk P ρ g cl) (hgf:g≤fl):∀ (l:List Oper) (k:Nat),(∀ i o,l[i]?=some o→os[k + i]?=some o) →
  BdOk r P ρ g fl nt (ops ys cl fl (l.map fun o=>compQ P nt os o .nm)) (fun Q a w=>wpOpsIn (WF r) 0 P os Q (List.range' k l.length) a w)
 | [],k,_,t,h,n,e,t',h',n',hr,hf=>by
  obtain ⟨rfl,rfl,rfl,rfl⟩:=brIs_nx.1 (show brIs (.nx t h n) e t' h' n' from hr)
  exact ⟨Ab.refl _ _ _,fun a m w F s _ base mk Q hQ=>hQ a w m mk F (Tr.refl s)⟩
 | o::l,k,hl,t,h,n,e,t',h',n',hr,hf=>by
  have ih:=ops_ok (r:=r) hy hcl hgf l (k + 1) (fun i o' hi=>by have:=hl (i + 1) o' (by simpa using hi); rw [show k + 1 + i=k + (i + 1) by omega]; exact this)
  have ho:os[k]?=some o:=by simpa using hl 0 o (by simp)
  have hr1:brIs (opsQ (compQ P nt os o .nm) ys cl fl (ops ys cl fl (l.map fun o=>compQ P nt os o .nm)) t h n) e t' h' n':=hr
  unfold compQ at hr1
  split at hr1
  case h_2=>
   have:brIs (opsOk .no t (step badP ys cl fl 1152921504606846976 t h n) (ops ys cl fl (l.map fun o=>compQ P nt os o .nm))) e t' h' n':=hr1
   cases hb:step badP ys cl fl 1152921504606846976 t h n with
   | ok a b c=>exact absurd hb (fun q=>step_bad q)
   | bad l=>rw [hb] at this; exact absurd this brIs_bad
  case h_1 d q hd hgq=>
   have hr2:brIs (opsW ys cl fl d ((compOp P nt o.op).getD badP) (ops ys cl fl (l.map fun o=>compQ P nt os o .nm)) t h n (want t q)) e t' h' n':=hr1
   cases hw:want t q with
   | u=>rw [hw] at hr2; exact absurd hr2 brIs_bad
   | n=>
    rw [hw] at hr2
    have hr3:brIs (fT (put t d .ud) fun t=>ops ys cl fl (l.map fun o=>compQ P nt os o .nm) t h n) e t' h' n':=hr2
    rw [fT_eq] at hr3
    obtain ⟨hab,hk⟩:=ih _ _ _ _ _ _ _ hr3 hf
    refine ⟨hab,fun a m w F s fr base mk Q hQ=>?_⟩
    have hwn:=want_n (o:=o) (os:=os) F hgq hw
    have:=hk (a.put o.dst undef) m w (F.putD hd (r:=.ud) (v:=undef) rfl) s fr base (by rw [put_defers]; exact mk) Q (fun a' w' m' h1 h2 h3=>hQ a' w' m' h1 h2 h3)
    show wpOpsIn (WF r) 0 P os Q (k::List.range' (k + 1) l.length) a w
    rw [wpOpsIn_cons]
    simp only [wpOpIn,ho,hwn]
    exact ⟨fun _ _=>trivial,this⟩
   | y=>
    rw [hw] at hr2
    have hr3:brIs (opsOk d t (step ((compOp P nt o.op).getD badP) ys cl fl 1152921504606846976 t h n) (ops ys cl fl (l.map fun o=>compQ P nt os o .nm))) e t' h' n':=hr2
    cases hst:step ((compOp P nt o.op).getD badP) ys cl fl 1152921504606846976 t h n with
    | bad l=>rw [hst] at hr3; exact absurd hr3 brIs_bad
    | ok v h1 n1=>
     rw [hst] at hr3
     have hr4:brIs (fT (put t d v) fun t=>ops ys cl fl (l.map fun o=>compQ P nt os o .nm) t h1 n1) e t' h' n':=hr3
     rw [fT_eq] at hr4
     cases hc:compOp P nt o.op with
     | none=>rw [hc] at hst; exact absurd hst (fun q=>step_bad q)
     | some rp=>
      rw [hc] at hst
      have hst2:step rp ys cl fl 1152921504606846976 t h n=.ok v h1 n1:=hst
      have habn:Ab fl h n h1 n1:=by
       exact step_ab (ClOk.ab hcl) hgf _ _ _ _ _ hst2 hf
      obtain ⟨hab,hk⟩:=ih _ _ _ _ _ _ _ hr4 (Nat.le_trans hf habn.le)
      refine ⟨habn.trans hab,fun a m w F s fr base mk Q hQ=>?_⟩
      have hwy:=want_y (o:=o) (os:=os) F hgq hw
      obtain ⟨_,hop⟩:=step_ok (o:=o) hy hcl F s hgf hf hc hst2
      show wpOpsIn (WF r) 0 P os Q (k::List.range' (k + 1) l.length) a w
      rw [wpOpsIn_cons]
      simp only [wpOpIn,ho,hwy,if_true]
      refine hop (fr.left hab.le) _ Q (fun u w1 m1 T hu=>?_) r
      refine hk (a.put o.dst u) m1 w1 ((F.le (T.le (fr.left hab.le))).putD hd hu) T.sim (fr.right T.ext habn.le) base (by rw [put_defers]; exact mk.next T) Q fun a' w' m' h1 h2 h3=>hQ a' w' m' h1 h2 (T.trans h3 habn.le hab.le)
end Go.Rn
