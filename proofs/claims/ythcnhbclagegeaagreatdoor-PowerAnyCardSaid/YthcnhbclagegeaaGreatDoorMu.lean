/-
  Relations that grow till nothing more comes: the four of what POWER keeps in order. Conditions: none but those that the theorems print.
-/
import Derived.Test.YthcnhbclagegeaaGreatDoorMf
import Derived.Test.YthcnhbclagegeaaGreatDoorMi
import Derived.BigRegion
namespace Go.Proofs.YthcnhbclagegeaaGreatDoor
open Go.RowKit RelA
section
namespace RelA
abbrev M4:=Nat->Nat->Nat->Bool
noncomputable def Zbt (M:M4):M4
 | 0=>orM (orM (orM (M 0) (M 2)) (Zax (M 1) (M 2))) (Zax (M 0) (M 0))
 | 1=>orM (orM (orM (orM (M 1) (M 0)) (M 3)) (Zax (M 1) (M 3))) (Zax (M 0) (M 1))
 | 2=>orM (orM (M 2) (Zax (M 2) (M 0))) (Zax (M 3) (M 2))
 | 3=>orM (orM (orM (M 3) (M 2)) (Zax (M 2) (M 1))) (Zax (M 3) (M 3))
 | _=>fun _ _=>false
noncomputable def Zaq:Nat->M4->M4
 | 0,s=>s
 | k+1,s=>Zbt (Zaq k s)
open Classical in
noncomputable def Zk7 (s:M4):M4:=if h:∃ k,Zbt (Zaq k s)=Zaq k s then Zaq (Classical.choose h) s else s
theorem Zkm {s:M4} {k:Nat} (h:Zbt (Zaq k s)=Zaq k s):∀ d,Zaq (k+d) s=Zaq k s
 | 0=>rfl
 | d+1=>by
  show Zbt (Zaq (k+d) s)=Zaq k s
  rw[Zkm h d,h]
theorem Zva {s:M4} {k:Nat} (h:Zbt (Zaq k s)=Zaq k s):Zk7 s=Zaq k s:=by
 have hx:∃ k,Zbt (Zaq k s)=Zaq k s:=⟨k,h⟩
 unfold Zk7
 rw[dif_pos hx]
 have h2:=Classical.choose_spec hx
 generalize Classical.choose hx=j at h2
 rcases Nat.le_total j k with q | q
 ·have:=Zkm h2 (k-j)
  rw[show j+(k-j)=k by omega] at this
  exact this.symm
 ·have:=Zkm h (j-k)
  rw[show k+(j-k)=j by omega] at this
  exact this
def Wi (A B:Nat->Nat->Bool):Prop:=∀ i j,A i j=true->B i j=true
theorem Zi8 {A B C:Nat->Nat->Bool} (h:Wi A B):Wi A (orM B C):=fun i j a=>by unfold orM;rw[h i j a];rfl
theorem Yec (M:M4):∀ c,c<4->Wi (M c) (Zbt M c)
 | 0,_=>Zi8 (Zi8 (Zi8 fun _ _ a=>a))
 | 1,_=>Zi8 (Zi8 (Zi8 (Zi8 fun _ _ a=>a)))
 | 2,_=>Zi8 (Zi8 fun _ _ a=>a)
 | 3,_=>Zi8 (Zi8 (Zi8 fun _ _ a=>a))
 | c+4,h=>absurd h (by omega)
def Yia (M:M4):Prop:=∀ c,4<=c->M c=fun _ _=>false
theorem Zos (M:M4):Yia (Zbt M):=fun c hc=>by
 match c,hc with
 | c+4,_=>rfl
theorem Zot {s:M4} (h:Yia s):∀ k,Yia (Zaq k s)
 | 0=>h
 | _+1=>Zos _
theorem Ype {A B:Nat->Nat->Bool} (h:Wi A B) (g:Wi B A):A=B:=by
 funext i j
 rw[Bool.eq_iff_iff]
 exact⟨h i j,g i j⟩
theorem Yil {M:M4} (hf:Yia M) (h:∀ c,c<4->Wi (Zbt M c) (M c)):Zbt M=M:=by
 funext c
 rcases Nat.lt_or_ge c 4 with q | q
 ·exact Ype (h c q) (Yec M c q)
 ·rw[hf c q,Zos M c q]
def Wf4 (n:Nat) (M:M4):Prop:=∀ c,WFM n (M c)
theorem Zpq {n:Nat} {M:M4} (h:Wf4 n M):Wf4 n (Zbt M)
 | 0=>Zdy (Zdy (Zdy (h 0) (h 2)) (Ze9 (h 1) (h 2))) (Ze9 (h 0) (h 0))
 | 1=>Zdy (Zdy (Zdy (Zdy (h 1) (h 0)) (h 3)) (Ze9 (h 1) (h 3))) (Ze9 (h 0) (h 1))
 | 2=>Zdy (Zdy (h 2) (Ze9 (h 2) (h 0))) (Ze9 (h 3) (h 2))
 | 3=>Zdy (Zdy (Zdy (h 3) (h 2)) (Ze9 (h 2) (h 1))) (Ze9 (h 3) (h 3))
 | _+4=>fun _ _ a=>by cases a
theorem Zpr {n:Nat} {s:M4} (h:Wf4 n s):∀ k,Wf4 n (Zaq k s)
 | 0=>h
 | k+1=>Zpq (Zpr h k)
def Ycd (p:Nat->Bool):Nat->Nat
 | 0=>0
 | n+1=>Ycd p n+(if p n=true then 1 else 0)
theorem Yds {p q:Nat->Bool}:∀ n,(∀ i,i<n->p i=true->q i=true)->Ycd p n<=Ycd q n
 | 0,_=>Nat.le_refl _
 | n+1,h=>by
  have:=Yds n fun i hi=>h i (by omega)
  unfold Ycd
  by_cases e:p n=true
  ·rw[if_pos e,if_pos (h n (by omega) e)];omega
  ·rw[if_neg e];split<;>omega
theorem Ydr {p q:Nat->Bool} {j:Nat} (hp:p j=false) (hq:q j=true):∀ n,(∀ i,i<n->p i=true->q i=true)->j<n->Ycd p n<Ycd q n
 | 0,_,hj=>absurd hj (by omega)
 | n+1,h,hj=>by
  have h1:=Yds n fun i hi=>h i (by omega)
  unfold Ycd
  by_cases e:j=n
  ·subst e
   rw[hp,hq];simp;omega
  ·have:=Ydr hp hq n (fun i hi=>h i (by omega)) (by omega)
   by_cases e:p n=true
   ·rw[if_pos e,if_pos (h n (by omega) e)];omega
   ·rw[if_neg e];split<;>omega
def Zeo (n:Nat) (M:M4):Nat:=Ycd (fun e=>!(M (e / (n*n)) (e / n % n) (e % n))) (4*(n*n))
theorem Zv8 {n:Nat} {M:M4} (hw:Wf4 n (Zbt M)) {c:Nat} (hc:c<4) (h:¬ Wi (Zbt M c) (M c)):Zeo n (Zbt M)<Zeo n M:=by
 obtain⟨i,j,h1,h2⟩:∃ i j,Zbt M c i j=true/\M c i j=false:=by
  by_cases q:∃ i j,Zbt M c i j=true/\M c i j=false
  ·exact q
  ·exact absurd (fun i j a=>by
    cases e:M c i j with
    | true=>rfl
    | false=>exact absurd ⟨i,j,a,e⟩ q) h
 obtain⟨hi,hj⟩:=hw c i j h1
 have hn:0<n:=by omega
 have hin:i*n+j<n*n:=by
  have:(i+1)*n<=n*n:=Nat.mul_le_mul_right n (by omega)
  rw[Nat.add_mul] at this
  omega
 have e1:(c*(n*n)+(i*n+j)) / (n*n)=c:=by
  rw[Nat.mul_comm c,Nat.mul_add_div (by omega),Nat.div_eq_of_lt hin];rfl
 have e2:(c*(n*n)+(i*n+j)) / n % n=i:=by
  rw[show c*(n*n)+(i*n+j)=n*(c*n+i)+j by rw[Nat.mul_add,<- Nat.mul_assoc c,Nat.mul_comm n (c*n),Nat.mul_comm n i,Nat.add_assoc],Nat.mul_add_div hn,Nat.div_eq_of_lt hj,Nat.add_zero,Nat.mul_comm c,Nat.mul_add_mod,Nat.mod_eq_of_lt hi]
 have e3:(c*(n*n)+(i*n+j)) % n=j:=by
  rw[show c*(n*n)+(i*n+j)=n*(c*n+i)+j by rw[Nat.mul_add,<- Nat.mul_assoc c,Nat.mul_comm n (c*n),Nat.mul_comm n i,Nat.add_assoc],Nat.mul_add_mod,Nat.mod_eq_of_lt hj]
 refine Ydr (j:=c*(n*n)+(i*n+j)) ?_ ?_ _ (fun e hlt he=>?_) ?_
 ·simp only[e1,e2,e3,h1];rfl
 ·simp only[e1,e2,e3,h2];rfl
 ·simp only[Bool.not_eq_true'] at he ⊢
  have p:e / (n*n)<4:=Nat.div_lt_of_lt_mul (by rw[Nat.mul_comm (n*n)];exact hlt)
  cases q:M (e / (n*n)) (e / n % n) (e % n) with
  | false=>rfl
  | true=>rw[Yec M _ p _ _ q] at he;cases he
 ·have:c*(n*n)<=3*(n*n):=Nat.mul_le_mul_right _ (by omega)
  omega
/-! is one relation Zqw another? -/
theorem Zr1 {n:Nat} {F:Nat->Nat->Bool} (h:WFM n F):(((Zay n F).length:Int)==0)=true↔∀ i j,F i j=false:=by
 rw[beq_iff_eq]
 constructor
 ·intro h0 i j
  have h0:Zay n F=[]:=List.length_eq_zero_iff.1 (by omega)
  cases q:F i j with
  | false=>rfl
  | true=>
   have:=(Zeg n F n (i,j)).2 ⟨(h i j q).1,(h i j q).2,q⟩
   have h1:(i,j)∈Zay n F:=this
   rw[h0] at h1;cases h1
 ·intro h0
  have:Zay n F=[]:=by
   rw[List.eq_nil_iff_forall_not_mem]
   intro p hp
   have:=((Zeg n F n p).1 hp).2.2
   rw[h0] at this;cases this
  rw[this];rfl
theorem Zvi {A B:Nat->Nat->Bool}:(∀ i j,Zfe A B i j=false)↔Wi A B:=by
 unfold Zfe Wi
 constructor
 ·intro h i j a
  have:=h i j
  rw[a] at this
  simpa using this
 ·intro h i j
  cases q:A i j with
  | false=>rfl
  | true=>rw[h i j q];rfl
theorem Xa9 (b c n:Nat) (M S:Nat->Nat->Bool) (w:World) (hb:Rl w b n M) (hc:Rl w c n S) (hn:n<=40) (x:Bool) (hx:x=true↔Wi M S) :
  Calls Tryz.prog 189 #[.pointer (some ⟨b,0,none⟩),.pointer (some ⟨c,0,none⟩)] w fun e w'=>e=.returned (.bool x)/\Below w.heap.size w w':=by
 obtain⟨⟨R,h1,h2,h3⟩,h4⟩:=hb
 obtain⟨⟨T,g1,g2,g3⟩,g4⟩:=hc
 have e:=Yk6 b n c n R T w h1 g1 h2 g2
 have e2:=Yrj h3 g3 h4 hn hn h2
 have e3:inR R T=x:=by
  rw[<- e2,Bool.eq_iff_iff,hx,Nat.max_self,Zd4 (show WFM n (fun i j=>M i j&&!S i j) from Zfi (S:=S) h4),Zr1 (show WFM n (fun i j=>M i j&&!S i j) from Zfi (S:=S) h4)]
  exact Zvi
 rw[e3] at e
 exact e
theorem Ypv (b c n:Nat) (M S:Nat->Nat->Bool) (w:World) (hb:Rr w b n M) (hc:Rr w c n S) (hn:n<=40) (x:Bool) (hx:x=true↔Wi M S) :
  Calls Tryz.prog 198 #[.pointer (some ⟨b,0,none⟩),.pointer (some ⟨c,0,none⟩)] w fun e w'=>e=.returned (.bool x)/\Below w.heap.size w w':=by
 refine Yfb b n c n M S w hb.at_ hc.at_ hn hn x ?_
 rw[Bool.eq_iff_iff,hx,Nat.max_self,Zd4 (show WFM n (fun i j=>M i j&&!S i j) from Zfi (S:=S) hb.wf),Zr1 (show WFM n (fun i j=>M i j&&!S i j) from Zfi (S:=S) hb.wf)]
 exact Zvi
end RelA
end
section
attribute [local irreducible] RelA.rcells
namespace RelA
def mnM (E:List Ev) (M:Nat->Nat->Bool):Nat->Nat->Bool:=fun i j=>(M i j&&decide (0<(Ev.at E i).th))&&((Ev.at E i).th==(Ev.at E j).th)
theorem Ypg {n:Nat} {E:List Ev} {M:Nat->Nat->Bool} (h:WFM n M):WFM n (mnM E M):=fun i j a=>by
 unfold mnM at a
 simp only[Bool.and_eq_true] at a
 exact h i j a.1.1
end RelA
set_option maxRecDepth 20000 in
set_option maxHeartbeats 3200000 in
theorem Ye9 (g:Gr) (rb:Nat) (M:Nat->Nat->Bool) (w:World) (h:EsIn w g.ea g.E) (he:g.E.length<=40) (hr:Rr w rb g.n M) :
  Calls Tryz.prog 175 #[g.v,.pointer (some ⟨rb,0,none⟩)] w (Zcw g.n (mnM g.E M) w):=by
 have HG0:=jh (GBox.of_alloc w g 27)
 obtain⟨G,hG⟩:∃ G,G=g:=⟨_,rfl⟩
 obtain⟨locs,ea,E,ec,ra,R,rc,ca,C,cc,ma,Rmw,mc,da,Data,dc,ta,Ctrl,tc,ia,CtrlI,ic⟩:=g
 simp only[Gr.v,Gr.n,Zaw] at he h hr HG0 ⊢
 rw[<- hG] at HG0
 have HI:=jh h
 have HR:=jh hr.at_
 have HW:Hid (WFM E.length (mnM E M)):=jh (Ypg hr.wf)
 clear h hr
 go_enter Tryz.func175,Tryz.ntmps175
 have hR0:=fun o=>((HR.out.alloc o).c0)
 go_wp2_with fail
 obtain⟨w1,hw1⟩:∃ x,x=w.alloc (Obj.cells #[.int .i64 locs,.slice ea E.length ec,.slice ra R.length rc,.slice ca C.length cc,.slice ma Rmw.length mc,.slice da Data.length dc,.slice ta Ctrl.length tc,.slice ia CtrlI.length ic] 27 (0,0)):=⟨_,rfl⟩
 rw[<- hw1] at HG0 ⊢
 have hs1:w1.heap.size=w.heap.size+1:=by rw[hw1];simp
 have HB1:Hid (Below w.heap.size w w1):=jh (by rw[hw1];exact jb)
 clear hw1
 clear hR0
 have HI1:=jh (HI.out.next HB1.out)
 have HR1:=jh (HR.out.next HB1.out)
 clear HI hs1 HR
 refine(Zik E.length w1 he).mono ?_
 rintro e w2 ⟨rfl,hat,hbe1⟩
 have HAT1:=jh hat
 have HBE1:=jh hbe1
 clear hat hbe1
 go_wp2_with fail
 go_loopw [6] (fun x wr=>∃ k:Nat,k<=E.length/\x=.int .i64 k/\RAt wr w1.heap.size E.length (Zcy E.length k 0 (mnM E M))/\Below w1.heap.size w1 wr) (fun x _=>E.length-(intOf x).toNat)
 case atStart=>exact⟨0,Nat.zero_le _,rfl,HAT1.out.congr fun i j _ _=>(Zc3 _ _ i j).symm,HBE1.out⟩
 case round=>
  obtain⟨k,hk,rfl,hat,hbe⟩:=hrel
  have hr0:=(HR1.out.next hbe).c0
  obtain⟨c0,c1,c2,c3,c4,c5,c6,c7⟩:=HG0.out.next hbe
  rw[hG] at c0 c1 c2 c3 c4 c5 c6 c7
  dsimp only at c0 c1 c2 c3 c4 c5 c6 c7
  clear c0 c2 c3 c4 c5 c6 c7
  by_cases hlt:k<E.length
  ·obtain⟨wo,rfl⟩:∃ wo:World,wo=wr:=⟨_,rfl⟩
   have hdk:decide ((k:Int)<(E.length:Int))=true:=by simp;omega
   have hki:(k:Int)<(E.length:Int):=by omega
   have hk40:(k:Int)<40:=by omega
   have HAT:=jh hat
   clear hat
   go_wp2_with fail
   clear hr0 c1
   go_loopw [7] (fun x wi=>∃ q:Nat,q<=E.length/\x=.int .i64 q/\RAt wi w1.heap.size E.length (Zcy E.length k q (mnM E M))/\Below w1.heap.size w1 wi) (fun x _=>E.length-(intOf x).toNat)
   case atStart=>exact⟨0,Nat.zero_le _,rfl,HAT.out,hbe⟩
   case round=>
    obtain⟨q,hq,rfl,hati,hbi⟩:=hrel
    have hr0:=(HR1.out.next hbi).c0
    obtain⟨c0,c1,c2,c3,c4,c5,c6,c7⟩:=HG0.out.next hbi
    rw[hG] at c0 c1 c2 c3 c4 c5 c6 c7
    dsimp only at c0 c1 c2 c3 c4 c5 c6 c7
    clear c0 c2 c3 c4 c5 c6 c7
    by_cases hql:q<E.length
    ·have hdq:decide ((q:Int)<(E.length:Int))=true:=by simp;omega
     have hqi:(q:Int)<(E.length:Int):=by omega
     have hq40:(q:Int)<40:=by omega
     have hd:=hati.ci k q (by omega) (by omega)
     rw[Ze2] at hd
     have hm:=(HR1.out.next hbi).ci k q (by omega) (by omega)
     have hfz:=hati.frozen (1+k*40+q)
     have HATI:=jh hati
     have HST:=jh (Zc4 E.length k q (mnM E M))
     have hX:mnM E M k q=((M k q&&decide (0<(Ev.at E k).th))&&((Ev.at E k).th==(Ev.at E q).th)):=rfl
     clear hati
     rcases HI1.out.next hbi with h0 | ⟨b,o,rfl,hbl,hcc⟩
     ·rw[h0] at hlt;simp at hlt
     ·have d0:=(hcc k hlt).c0
      have d1:=(hcc q hql).c0
      clear hcc
      change _=some (Value.int _ (Ev.at E k).th) at d0
      change _=some (Value.int _ (Ev.at E q).th) at d1
      generalize (Ev.at E k).th=x at *
      generalize (Ev.at E q).th=y at *
      generalize M k q=mv at *
      cases mv
      ·have HX:Hid (mnM E M k q=false):=jh (by rw[hX];rfl)
       clear hX
       go_wp2_with fail
       go_region
       go_wp2_with fail
       go_roundw
       case rel=>
        refine⟨q+1,by omega,by go_num,?_,(hbi.setCell (Nat.le_refl _) _).drew⟩
        have h2:=(RAt.congr (HATI.out.set k q _ (by omega) (by omega)) fun i j _ _=>HST.out i j).drew
        rw[HX.out] at h2
        exact h2
       case measure=>simp[intOf];omega
      ·by_cases hp:0<x
       ·have hdp:decide (0<x)=true:=by simp[hp]
        cases e1:(x==y)
        all_goals
         rw[e1,hdp] at hX
         have HX:=jh hX
         clear hX
         go_wp2_with fail
         go_region
         go_wp2_with fail
         go_roundw
         case rel=>
          refine⟨q+1,by omega,by go_num,?_,(hbi.setCell (Nat.le_refl _) _).drew⟩
          have h2:=(RAt.congr (HATI.out.set k q _ (by omega) (by omega)) fun i j _ _=>HST.out i j).drew
          rw[HX.out] at h2
          exact h2
         case measure=>simp[intOf];omega
       ·have hdp:decide (0<x)=false:=by simp[hp]
        rw[hdp] at hX
        have HX:Hid (mnM E M k q=false):=jh (by rw[hX];rfl)
        clear hX
        go_wp2_with fail
        go_region
        go_wp2_with fail
        go_roundw
        case rel=>
         refine⟨q+1,by omega,by go_num,?_,(hbi.setCell (Nat.le_refl _) _).drew⟩
         have h2:=(RAt.congr (HATI.out.set k q _ (by omega) (by omega)) fun i j _ _=>HST.out i j).drew
         rw[HX.out] at h2
         exact h2
        case measure=>simp[intOf];omega
    ·have hqN:q=E.length:=by omega
     have HQ:=jh hqN
     have hdq:decide ((q:Int)<(E.length:Int))=false:=by simp;omega
     have HATI:=jh hati
     clear hqN hati
     go_wp2_with fail
     go_roundw
     case rel=>
      refine⟨k+1,by omega,by go_num,?_,hbi⟩
      have h1:=HATI.out
      rw[HQ.out] at h1
      exact h1.congr fun i j _ _=>Zd6 E.length k _ i j
     case measure=>simp[intOf];omega
  ·have hkN:k=E.length:=by omega
   have HKN:=jh hkN
   have hdk:decide ((k:Int)<(E.length:Int))=false:=by simp;omega
   have HAT:=jh hat
   have HBf:=jh (Zab HB1.out hbe)
   clear hkN hat
   go_wp2_with fail
   go_ret
   exact⟨_,rfl,⟨HAT.out.congr fun i j _ _=>(Zc5 E.length k _ HKN.out i j).trans (Ziq HW.out i j),HW.out⟩,HB1.out.size,HBf.out⟩
end
end Go.Proofs.YthcnhbclagegeaaGreatDoor
