/-
  The graphs of awake() of law 20: their relations, each as one number. Conditions: none.
-/
import Derived.Test.YthcnhbclagegeaaGreatDoorMzb
import Derived.Test.YthcnhbclagegeaaGreatDoorMzc
import Derived.Handy
namespace Go.Proofs.YthcnhbclagegeaaGreatDoor
open Go.RowKit RelA
namespace RelA
def Yh0 (f:Nat->Bool) (m:Nat):Nat:=Nat.rec 0 (fun k r=>bif f k then r|||2 ^ k else r) m
theorem Zzj (f:Nat->Bool) (m j:Nat):(Yh0 f m).testBit j=(decide (j<m)&&f j):=by
 induction m with
 | zero=>
  show Nat.testBit 0 j=_
  simp
 | succ k ih=>
  have e:Yh0 f (k+1)=bif f k then Yh0 f k|||2 ^ k else Yh0 f k:=rfl
  rw[e]
  by_cases h:j=k
  ·subst h
   cases h1:f j<;>simp[ih,h1,Nat.testBit_two_pow_self]
  ·have h2:decide (j<k+1)=decide (j<k):=by
    by_cases q:j<k
    ·simp[q];omega
    ·simp[q];omega
   rw[h2,<- ih]
   cases h1:f k<;>simp[Ne.symm h]
def Zju (n N i j:Nat):Bool:=N.testBit (i*n+j)
def Yhl (n:Nat) (f:Nat->Nat->Bool):Nat:=Yh0 (fun x=>f (x / n) (x % n)) (n*n)
theorem Zy8 {n i j:Nat} (f:Nat->Nat->Bool) (hi:i<n) (hj:j<n):Zju n (Yhl n f) i j=f i j:=by
 have h1:(i*n+j) / n=i:=by
  rw[Nat.mul_comm,Nat.mul_add_div (by omega),Nat.div_eq_of_lt hj];rfl
 have h2:(i*n+j) % n=j:=by
  rw[Nat.mul_comm,Nat.mul_add_mod,Nat.mod_eq_of_lt hj]
 have h3:i*n+j<n*n:=by
  have:(i+1)*n<=n*n:=Nat.mul_le_mul_right n hi
  rw[Nat.add_mul] at this
  omega
 unfold Zju Yhl
 rw[Zzj,h1,h2]
 simp[h3]
structure IsN (n N:Nat) (M:Nat->Nat->Bool):Prop where
 wf:∀ i j,M i j=true->i<n/\j<n
 bit:∀ i j,i<n->j<n->M i j=Zju n N i j
def Yna (n a b:Nat):Nat:=Yhl n fun i j=>(List.range n).any fun k=>Zju n a i k&&Zju n b k j
def Zua (n a:Nat):Nat:=Nat.rec a (fun _ P=>P|||Yna n P a) n
theorem Zu5 {n:Nat} {M:Nat->Nat->Bool} (f:Nat->Nat->Bool) (wf:∀ i j,M i j=true->i<n/\j<n) (h:∀ i j,i<n->j<n->M i j=f i j):IsN n (Yhl n f) M:=
 ⟨wf,fun i j hi hj=>by rw[Zy8 f hi hj];exact h i j hi hj⟩
theorem Zav {n a b:Nat} {M S:Nat->Nat->Bool} (h:IsN n a M) (g:IsN n b S):IsN n (a|||b) (orM M S):=
 ⟨fun i j x=>by
  unfold orM at x
  rw[Bool.or_eq_true] at x
  rcases x with x | x
  ·exact h.wf i j x
  ·exact g.wf i j x,fun i j hi hj=>by unfold orM;rw[h.bit i j hi hj,g.bit i j hi hj];simp[Zju]⟩
theorem Zhb {n a b:Nat} {M S:Nat->Nat->Bool} (h:IsN n a M) (g:IsN n b S):IsN n (a&&&b) (Zky M S):=
 ⟨fun i j x=>by
  unfold Zky at x
  rw[Bool.and_eq_true] at x
  exact h.wf i j x.1,fun i j hi hj=>by unfold Zky;rw[h.bit i j hi hj,g.bit i j hi hj];simp[Zju]⟩
theorem Zdm {n a b:Nat} {M S:Nat->Nat->Bool} (h:IsN n a M) (g:IsN n b S):IsN n (a ^^^ (a&&&b)) (Zfe M S):=
 ⟨fun i j x=>by
  unfold Zfe at x
  rw[Bool.and_eq_true] at x
  exact h.wf i j x.1,fun i j hi hj=>by
  unfold Zfe;rw[h.bit i j hi hj,g.bit i j hi hj];simp only[Zju,Nat.testBit_xor,Nat.testBit_and]
  cases a.testBit (i*n+j)<;>cases b.testBit (i*n+j)<;>rfl⟩
theorem Zag {n a b:Nat} {M S:Nat->Nat->Bool} (h:IsN n a M) (g:IsN n b S):IsN n (Yna n a b) (Zax M S):=
 Zu5 _ (fun i j x=>by
  obtain⟨k,p,q⟩:=seqM_iff.1 x
  exact⟨(h.wf i k p).1,(g.wf k j q).2⟩) fun i j hi hj=>by
  rw[Bool.eq_iff_iff,seqM_iff,List.any_eq_true]
  constructor
  ·rintro⟨k,p,q⟩
   have hk:=(h.wf i k p).2
   refine⟨k,List.mem_range.2 hk,?_⟩
   rw[Bool.and_eq_true,<- h.bit i k hi hk,<- g.bit k j hk hj]
   exact⟨p,q⟩
  ·rintro⟨k,hk,p⟩
   have hk':=List.mem_range.1 hk
   rw[Bool.and_eq_true,<- h.bit i k hi hk',<- g.bit k j hk' hj] at p
   exact⟨k,p⟩
theorem Zqd {n a:Nat} {M:Nat->Nat->Bool} (h:IsN n a M):IsN n (Yhl n fun i j=>Zju n a j i) (Zff M):=
 Zu5 _ (fun i j x=>(h.wf j i x).symm) fun i j hi hj=>h.bit j i hj hi
theorem Zdt {n a:Nat} {M:Nat->Nat->Bool} (h:IsN n a M):IsN n (Yhl n fun i j=>Nat.beq i j||Zju n a i j) (Zco n M):=
 Zu5 _ (fun i j x=>by
  unfold Zco at x
  simp only[Bool.or_eq_true,Bool.and_eq_true,decide_eq_true_eq] at x
  rcases x with⟨rfl,x⟩ | x
  ·exact⟨x,x⟩
  ·exact h.wf i j x) fun i j hi hj=>by
  unfold Zco
  rw[h.bit i j hi hj]
  simp only[hi,decide_true,Bool.and_true]
  by_cases e:i=j
  ·subst e;simp
  ·have:Nat.beq i j=false:=by
    cases q:Nat.beq i j
    ·rfl
    ·exact absurd (Nat.eq_of_beq_eq_true q) e
   simp[e,this]
theorem Zb1 {n a:Nat} {M:Nat->Nat->Bool} (h:IsN n a M) (hc:Nat.beq (Zua n a|||Yna n (Zua n a) a) (Zua n a)=true):IsN n (Zua n a) (Zbl M):=by
 have hst:∀ m,∃ T,IsN n (Nat.rec a (fun _ P=>P|||Yna n P a) m) T/\(∀ i j,T i j=true->Zg9 M i j)/\(∀ i j,M i j=true->T i j=true):=by
  intro m
  induction m with
  | zero=>exact⟨M,h,fun i j x=>.single x,fun _ _ x=>x⟩
  | succ m ih=>
   obtain⟨T,h1,h2,h3⟩:=ih
   refine⟨orM T (Zax T M),Zav h1 (Zag h1 h),fun i j x=>?_,fun i j x=>?_⟩
   ·unfold orM at x
    rw[Bool.or_eq_true,seqM_iff] at x
    rcases x with x | ⟨k,p,q⟩
    ·exact h2 i j x
    ·exact(h2 i k p).tail q
   ·unfold orM
    rw[h3 i j x];rfl
 obtain⟨T,h1,h2,h3⟩:=hst n
 have h1':IsN n (Zua n a) T:=h1
 have hcl:∀ i k j,T i k=true->M k j=true->T i j=true:=by
  intro i k j p q
  have e:=Nat.eq_of_beq_eq_true hc
  have hi:=(h1'.wf i k p).1
  have hj:=(h.wf k j q).2
  have hk:=(h.wf k j q).1
  rw[h1'.bit i j hi hj,<- e]
  have:=(Zav h1' (Zag h1' h)).bit i j hi hj
  rw[<- this]
  unfold orM
  rw[Bool.or_eq_true,seqM_iff]
  exact .inr ⟨k,p,q⟩
 have hT:Zbl M=T:=by
  funext i j
  rw[Bool.eq_iff_iff,plusM_iff]
  refine⟨fun x=>?_,h2 i j⟩
  induction x with
  | single x=>exact h3 _ _ x
  | tail _ x ih=>exact hcl _ _ _ ih x
 rw[hT]
 exact h1'
theorem Ygj {n a:Nat} {M:Nat->Nat->Bool} (h:IsN n a M):(∃ i,i<n/\M i i=true)↔(List.range n).any (fun i=>Zju n a i i)=true:=by
 rw[List.any_eq_true]
 constructor
 ·rintro⟨i,hi,x⟩
  exact⟨i,List.mem_range.2 hi,by rw[<- h.bit i i hi hi];exact x⟩
 ·rintro⟨i,hi,x⟩
  have hi:=List.mem_range.1 hi
  exact⟨i,hi,by rw[h.bit i i hi hi];exact x⟩
end RelA
namespace RelA
theorem Zbe {n N:Nat} {M:Nat->Nat->Bool} (wf:WFM n M) (h:((List.range n).all fun i=>(List.range n).all fun j=>M i j==Zju n N i j)=true):IsN n N M:=
 ⟨wf,fun i j hi hj=>by
  have h1:=List.all_eq_true.1 h i (List.mem_range.2 hi)
  exact eq_of_beq (List.all_eq_true.1 h1 j (List.mem_range.2 hj))⟩
theorem IsN.to {n a:Nat} {M:Nat->Nat->Bool} (h:IsN n a M) {b:Nat} (e:a=b):IsN n b M:=e▸h
theorem Zgl {n N T:Nat} {M:Nat->Nat->Bool} {E:List Ev} (h:IsN n N M) (ht:∀ i j,i<n->j<n->Zju n T i j=((Ev.at E i).th==(Ev.at E j).th)):IsN n (N&&&T) (Zbm E M):=
 ⟨fun i j x=>by
  unfold Zbm at x
  rw[Bool.and_eq_true] at x
  exact h.wf i j x.1,fun i j hi hj=>by
  unfold Zbm
  rw[h.bit i j hi hj,<- ht i j hi hj]
  unfold Zju
  rw[Nat.testBit_and]⟩
theorem Zdk {n N:Nat} {M:Nat->Nat->Bool} (h:IsN n N M) (x:Bool) (hx:(List.range n).any (fun i=>Zju n N i i)=x):x=true↔Zcz n M:=by
 rw[<- hx]
 exact(Ygj h).symm
end RelA
namespace RelA
structure Ad where
 ea:Option Addr
 ec:Nat
 ra:Option Addr
 rc:Nat
 ca:Option Addr
 cc:Nat
 a0:Option Addr
 c0:Nat
 a1:Option Addr
 c1:Nat
theorem Zem {n:Nat} {M:Nat->Nat->Bool} (h:IsN n 0 M):M=Za1:=by
 funext i j
 cases e:M i j with
 | false=>rfl
 | true=>
  obtain⟨hi,hj⟩:=h.wf i j e
  have:=h.bit i j hi hj
  rw[e] at this
  simp[Zju] at this
theorem Zsy (n:Nat):IsN n 0 Za1:=⟨fun _ _ h=>(by cases h),fun i j _ _=>by simp[Za1,Zju]⟩
theorem Zw2:Zbt (fun _=>Za1)=fun _=>Za1:=by
 have h1:Zax Za1 Za1=Za1:=by funext i j;rw[Bool.eq_iff_iff,seqM_iff];simp[Za1]
 have h2:RelA.orM Za1 Za1=Za1:=rfl
 funext k
 match k with
 | 0=>show RelA.orM (RelA.orM (RelA.orM Za1 Za1) (Zax Za1 Za1)) (Zax Za1 Za1)=Za1;rw[h1,h2,h2,h2]
 | 1=>show RelA.orM (RelA.orM (RelA.orM (RelA.orM Za1 Za1) Za1) (Zax Za1 Za1)) (Zax Za1 Za1)=Za1;rw[h1,h2,h2,h2,h2]
 | 2=>show RelA.orM (RelA.orM Za1 (Zax Za1 Za1)) (Zax Za1 Za1)=Za1;rw[h1,h2,h2]
 | 3=>show RelA.orM (RelA.orM (RelA.orM Za1 Za1) (Zax Za1 Za1)) (Zax Za1 Za1)=Za1;rw[h1,h2,h2,h2]
 | n+4=>rfl
theorem Zfw {s:M4} (h:s=fun _=>Za1) (j:Nat):Zk7 s j=Za1:=by
 subst h
 rw[Zva (k:=0) (s:=fun _=>Za1) Zw2]
 rfl
theorem Zp4 {n:Nat} {M:Nat->Nat->Bool} (h:IsN n 0 M):Zie n M=true:=by
 rw[Zem h]
 have e:Zay n Za1=[]:=by
  refine List.eq_nil_iff_forall_not_mem.2 ?_
  rintro⟨a,b⟩ q
  unfold Zay Zjb Zi5 at q
  simp only[List.mem_flatMap,List.mem_map,List.mem_filter] at q
  obtain⟨i,_,j,⟨_,x⟩,_⟩:=q
  cases x
 unfold Zie
 rw[e]
 rfl
end RelA
namespace ToldP
namespace L20
open Go.Rn (Rho RV Mp Tells chV chW Zau kcL Zbr Zcc isB Zt1 Zg3 Zci Ze3 Zck inL Zbk Za8 he denC_cons denC_nil Zkv dsc_cons dsc_nil den Za7)
variable {A:Ad} {w0:World}
def g0 (A:Ad):Gr:=Zda bE0 bR0 [0,2] [1,4] A.ea A.ec A.ra A.rc A.ca A.cc A.a0 A.c0 A.a1 A.c1
noncomputable abbrev X0 (A:Ad) (t:RV):=mx (g0 A) [] (Zac (g0 A)) t
theorem th0:∀ i j,i<6->j<6->Zju 6 52348108995 i j=((Ev.at bE0 i).th==(Ev.at bE0 j).th):=fun i j hi hj=>by
 have h:((List.range 6).all fun i=>(List.range 6).all fun j=>Zju 6 52348108995 i j==((Ev.at bE0 i).th==(Ev.at bE0 j).th))=true:=by kernel_rfl
 exact eq_of_beq (List.all_eq_true.1 (List.all_eq_true.1 h i (List.mem_range.2 hi)) j (List.mem_range.2 hj))
theorem k02:IsN 6 1572 (X0 A p2):=Zbe (Zjy _) (by kernel_rfl)
theorem Ynn:IsN 6 0 (X0 A p53):=(Zgl k02 th0).to (by kernel_rfl)
theorem k00:IsN 6 544 (X0 A p0):=Zbe (Zdo _ _) (by kernel_rfl)
theorem Xad:IsN 6 544 (X0 A p54):=(Zav Ynn k00).to (by kernel_rfl)
theorem k01:IsN 6 1028 (X0 A p1):=Zbe (Zdo _ _) (by kernel_rfl)
theorem Xac:IsN 6 1572 (X0 A p55):=(Zav Xad k01).to (by kernel_rfl)
theorem k08:IsN 6 1074266112 (X0 A p8):=(Zqd k00).to (by kernel_rfl)
theorem k09:IsN 6 4299161600 (X0 A p9):=(Zag k08 k01).to (by kernel_rfl)
theorem Xab:IsN 6 4299163172 (X0 A p56):=(Zav Xac k09).to (by kernel_rfl)
theorem Xaa:IsN 6 0 (X0 A p57):=(Zgl k09 th0).to (by kernel_rfl)
theorem You:IsN 6 4299161600 (X0 A p58):=(Zdm k09 Xaa).to (by kernel_rfl)
theorem Yz9:IsN 6 0 (X0 A p59):=(Zgl k01 th0).to (by kernel_rfl)
theorem Yva:IsN 6 1028 (X0 A p60):=(Zdm k01 Yz9).to (by kernel_rfl)
theorem Yz8:IsN 6 0 (X0 A p61):=(Zag You Yva).to (by kernel_rfl)
theorem Yz7:IsN 6 0 (X0 A p62):=Zbe (Zdo _ _) (by kernel_rfl)
theorem Yz6:IsN 6 0 (X0 A p63):=(Zhb Yz8 Yz7).to (by kernel_rfl)
theorem k04:IsN 6 34361835520 (X0 A p4):=Zbe (Zb5 _ _) (by kernel_rfl)
theorem k05:IsN 6 268451969 (X0 A p5):=Zbe (Zb5 _ _) (by kernel_rfl)
theorem k06:IsN 6 34630287489 (X0 A p6):=(Zav k04 k05).to (by kernel_rfl)
theorem k03:IsN 6 536907580 (X0 A p3):=Zbe (Zst _) (by kernel_rfl)
theorem k07:IsN 6 536903680 (X0 A p7):=(Zgl k03 th0).to (by kernel_rfl)
theorem Yvh:IsN 6 536903680 (X0 A p20):=(Zag k06 k07).to (by kernel_rfl)
theorem Xay:IsN 6 0 (X0 A p24):=Zbe (Zb5 _ _) (by kernel_rfl)
theorem Xax:IsN 6 0 (X0 A p25):=(Zag Yvh Xay).to (by kernel_rfl)
theorem Xaw:IsN 6 0 (X0 A p26):=(Zag Xax k07).to (by kernel_rfl)
theorem Yvf:IsN 6 0 (X0 A p27):=(Zag Xaw k06).to (by kernel_rfl)
theorem Xa1:IsN 6 0 (X0 A p19):=Zbe (Zb5 _ _) (by kernel_rfl)
theorem Xa0:IsN 6 0 (X0 A p21):=(Zag Yvh Xa1).to (by kernel_rfl)
theorem Xaz:IsN 6 0 (X0 A p22):=(Zag Xa0 k07).to (by kernel_rfl)
theorem Yvg:IsN 6 0 (X0 A p23):=(Zag Xaz k06).to (by kernel_rfl)
theorem Xav:IsN 6 0 (X0 A p28):=(Zag k05 Yvg).to (by kernel_rfl)
theorem Xau:IsN 6 0 (X0 A p29):=(Zag Xav k04).to (by kernel_rfl)
theorem Xat:IsN 6 0 (X0 A p30):=(Zdm Yvg Xau).to (by kernel_rfl)
theorem Yow:IsN 6 0 (X0 A p31):=(Zav Yvf Xat).to (by kernel_rfl)
theorem Yve:IsN 6 0 (X0 A p32):=(Zgl k00 th0).to (by kernel_rfl)
theorem Yno:IsN 6 544 (X0 A p33):=(Zdm k00 Yve).to (by kernel_rfl)
theorem Xaq:IsN 6 0 (X0 A p38):=(Zag Yno Yow).to (by kernel_rfl)
theorem Xap:IsN 6 0 (X0 A p39):=(Zav Yow Xaq).to (by kernel_rfl)
theorem Xao:IsN 6 1572 (X0 A p41):=(Zav k00 k01).to (by kernel_rfl)
theorem Xan:IsN 6 4299163172 (X0 A p42):=(Zav Xao k09).to (by kernel_rfl)
theorem Xak:IsN 6 4299163172 (X0 A p45):=(Zb1 Xan (by kernel_rfl)).to (by kernel_rfl)
theorem Xaj:IsN 6 38929450661 (X0 A p46):=(Zdt Xak).to (by kernel_rfl)
theorem of0:IsN 6 0 (ofM (g0 A).n []):=Zbe (Zdo _ _) (by kernel_rfl)
theorem st0:Zac (g0 A)=fun _=>Za1:=by
 have z:=@of0 A
 have a0:IsN 6 0 (Zac (g0 A) 0):=(Zav (Zav z (Zhb Ynn (Zag You Yno))) Yve).to (by kernel_rfl)
 have a2:IsN 6 0 (Zac (g0 A) 2):=(Zav (Zag z (Zav k04 k05)) (Zhb Ynn (Zag Yva Yno))).to (by kernel_rfl)
 have a3:IsN 6 0 (Zac (g0 A) 3):=(Zav (Zav z Ynn) (Zag z (Zav k04 k05))).to (by kernel_rfl)
 funext j
 match j with
 | 0=>exact Zem a0
 | 1=>rfl
 | 2=>exact Zem a2
 | 3=>exact Zem a3
 | j+4=>rfl
theorem Xa8:IsN 6 0 (X0 A p10):=(show IsN 6 0 (Zk7 (Zac (g0 A)) 0) from (Zfw st0 0).symm▸Zsy 6)
theorem Xa6:IsN 6 0 (X0 A p14):=(Zag k04 Xa8).to (by kernel_rfl)
theorem Xa5:IsN 6 0 (X0 A p15):=(Zag Xa6 k04).to (by kernel_rfl)
theorem Xa7:IsN 6 0 (X0 A p11):=(show IsN 6 0 (Zk7 (Zac (g0 A)) 1) from (Zfw st0 1).symm▸Zsy 6)
theorem Xa4:IsN 6 0 (X0 A p16):=(Zag k04 Xa7).to (by kernel_rfl)
theorem Xa3:IsN 6 0 (X0 A p17):=(Zag Xa4 k05).to (by kernel_rfl)
theorem Xa2:IsN 6 0 (X0 A p18):=(Zav Xa5 Xa3).to (by kernel_rfl)
theorem Xas:IsN 6 0 (X0 A p34):=(Zav Xa2 Yow).to (by kernel_rfl)
theorem Yvd:IsN 6 544 (X0 A p35):=(Zav Xas Yno).to (by kernel_rfl)
theorem Xar:IsN 6 544 (X0 A p36):=(Zb1 Yvd (by kernel_rfl)).to (by kernel_rfl)
theorem Yov:IsN 6 34630288033 (X0 A p37):=(Zdt Xar).to (by kernel_rfl)
theorem Yvc:IsN 6 0 (X0 A p40):=(Zag Xap Yov).to (by kernel_rfl)
theorem Xam:IsN 6 0 (X0 A p43):=(Zag k05 Yvc).to (by kernel_rfl)
theorem Xal:IsN 6 0 (X0 A p44):=(Zag Xam k05).to (by kernel_rfl)
theorem Xai:IsN 6 0 (X0 A p47):=(Zb1 Yvc (by kernel_rfl)).to (by kernel_rfl)
theorem Xah:IsN 6 34630287489 (X0 A p48):=(Zdt Xai).to (by kernel_rfl)
theorem Xag:IsN 6 38929450661 (X0 A p49):=(Zag Xaj Xah).to (by kernel_rfl)
theorem Xaf:IsN 6 0 (X0 A p50):=(Zag Xag Yvf).to (by kernel_rfl)
theorem Xae:IsN 6 0 (X0 A p51):=(Zag Xaf Yov).to (by kernel_rfl)
theorem Yvb:IsN 6 0 (X0 A p52):=(Zav Xal Xae).to (by kernel_rfl)
theorem Yz5:IsN 6 0 (X0 A p64):=(Zag You Yvb).to (by kernel_rfl)
theorem Yz4:IsN 6 0 (X0 A p65):=(Zag Yz5 Yov).to (by kernel_rfl)
theorem Yz3:IsN 6 1028 (X0 A p66):=(Zav k01 Yvb).to (by kernel_rfl)
theorem Xbr (c:Cx (g0 A) none [] 0 w0) (w:World) (hb:Below w0.heap.size w0 w):Calls Tryz.prog 14 #[(g0 A).v] w fun e w'=>e=.returned (.bool true)/\Below w.heap.size w w':=
 Zra c false true false false false (Zdk (Zb1 Xab (by kernel_rfl)) _ (by kernel_rfl)) (Zp4 Yz6) (Zdk (Zb1 Yvd (by kernel_rfl)) _ (by kernel_rfl)) (Zdk Yz4 _ (by kernel_rfl)) (Zdk (Zb1 Yz3 (by kernel_rfl)) _ (by kernel_rfl)) w hb
theorem ck0:CheckOk (g0 A):=by
 refine⟨by simp[g0,Zda],by simp[g0,Zda],by simp[g0,Zda,bE0],by simp[g0,Zda,bE0],rfl,rfl,fun i hi=>?_,fun t ht=>?_,⟨fun k hk=>(by cases hk),fun i hi=>?_,fun k _ hk=>(by cases hk)⟩,⟨fun k hk=>(by cases hk),fun k _ hk=>(by cases hk)⟩,⟨fun k hk=>(by cases hk),fun k _ hk=>(by cases hk)⟩,⟨fun k hk=>(by cases hk),fun k _ hk=>(by cases hk)⟩⟩
 ·have hi6:i<6:=hi
  have hc:i=0∨i=1∨i=2∨i=3∨i=4∨i=5:=by omega
  rcases hc with rfl | rfl | rfl | rfl | rfl | rfl
  ·exact⟨by kernel_rfl,fun h=>absurd h (show ¬ (2:Int)=1 by decide),fun _=>rfl⟩
  ·exact⟨by kernel_rfl,fun h=>absurd h (show ¬ (2:Int)=1 by decide),fun _=>rfl⟩
  ·exact⟨by kernel_rfl,fun h=>absurd h (show ¬ (2:Int)=1 by decide),fun _=>rfl⟩
  ·exact⟨by kernel_rfl,fun _=>⟨1,rfl,by simp[g0,Zda,bE0],rfl,rfl,rfl⟩,fun h=>absurd rfl h⟩
  ·exact⟨by kernel_rfl,fun h=>absurd h (show ¬ (2:Int)=1 by decide),fun _=>rfl⟩
  ·exact⟨by kernel_rfl,fun _=>⟨0,rfl,by simp[g0,Zda,bE0],rfl,rfl,rfl⟩,fun h=>absurd rfl h⟩
 ·have ht2:t<2:=ht
  have hc:t=0∨t=1:=by omega
  rcases hc with rfl | rfl
  ·refine⟨fun j hj=>?_,fun j hj q hq=>?_,by kernel_rfl,by simp[g0,Zda],rfl⟩
   ·have hj2:j<2:=hj
    have hc:j=0∨j=1:=by omega
    rcases hc with rfl | rfl
    ·exact⟨0,rfl,by simp[g0,Zda,bE0],rfl,rfl⟩
    ·exact⟨2,rfl,by simp[g0,Zda,bE0],rfl,rfl⟩
   ·have hj2:j<2:=hj
    have h1:j=1:=by omega
    have h0:q=0:=by omega
    subst h1 h0
    show(0:Int)≠2
    decide
  ·refine⟨fun j hj=>?_,fun j hj q hq=>?_,by kernel_rfl,by simp[g0,Zda],rfl⟩
   ·have hj2:j<2:=hj
    have hc:j=0∨j=1:=by omega
    rcases hc with rfl | rfl
    ·exact⟨1,rfl,by simp[g0,Zda,bE0],rfl,rfl⟩
    ·exact⟨4,rfl,by simp[g0,Zda,bE0],rfl,rfl⟩
   ·have hj2:j<2:=hj
    have h1:j=1:=by omega
    have h0:q=0:=by omega
    subst h1 h0
    show(1:Int)≠4
    decide
 ·have hi6:i<6:=hi
  have hc:i=0∨i=1∨i=2∨i=3∨i=4∨i=5:=by omega
  rcases hc with rfl | rfl | rfl | rfl | rfl | rfl<;>exact⟨show(0:Int)<=1 by decide,by kernel_rfl⟩
def g3 (A:Ad):Gr:=Zda bE3 bR3 [0,2] [1,5] A.ea A.ec A.ra A.rc A.ca A.cc A.a0 A.c0 A.a1 A.c1
noncomputable abbrev X3 (A:Ad) (t:RV):=mx (g3 A) [] (Zac (g3 A)) t
theorem th3:∀ i j,i<8->j<8->Zju 8 16204197870614348547 i j=((Ev.at bE3 i).th==(Ev.at bE3 j).th):=fun i j hi hj=>by
 have h:((List.range 8).all fun i=>(List.range 8).all fun j=>Zju 8 16204197870614348547 i j==((Ev.at bE3 i).th==(Ev.at bE3 j).th))=true:=by kernel_rfl
 exact eq_of_beq (List.all_eq_true.1 (List.all_eq_true.1 h i (List.mem_range.2 hi)) j (List.mem_range.2 hj))
theorem k32:IsN 8 12420 (X3 A p2):=Zbe (Zjy _) (by kernel_rfl)
theorem Ynl:IsN 8 0 (X3 A p53):=(Zgl k32 th3).to (by kernel_rfl)
theorem k30:IsN 8 4224 (X3 A p0):=Zbe (Zdo _ _) (by kernel_rfl)
theorem Yy7:IsN 8 4224 (X3 A p54):=(Zav Ynl k30).to (by kernel_rfl)
theorem k31:IsN 8 8196 (X3 A p1):=Zbe (Zdo _ _) (by kernel_rfl)
theorem Yy6:IsN 8 12420 (X3 A p55):=(Zav Yy7 k31).to (by kernel_rfl)
theorem k38:IsN 8 72057602627862528 (X3 A p8):=(Zqd k30).to (by kernel_rfl)
theorem k39:IsN 8 288230513590665216 (X3 A p9):=(Zag k38 k31).to (by kernel_rfl)
theorem Yy5:IsN 8 288230513590677636 (X3 A p56):=(Zav Yy6 k39).to (by kernel_rfl)
theorem Yy4:IsN 8 0 (X3 A p57):=(Zgl k39 th3).to (by kernel_rfl)
theorem Yos:IsN 8 288230513590665216 (X3 A p58):=(Zdm k39 Yy4).to (by kernel_rfl)
theorem Yy3:IsN 8 0 (X3 A p59):=(Zgl k31 th3).to (by kernel_rfl)
theorem Yu2:IsN 8 8196 (X3 A p60):=(Zdm k31 Yy3).to (by kernel_rfl)
theorem Yy2:IsN 8 0 (X3 A p61):=(Zag Yos Yu2).to (by kernel_rfl)
theorem Yy1:IsN 8 0 (X3 A p62):=Zbe (Zdo _ _) (by kernel_rfl)
theorem Yy0:IsN 8 0 (X3 A p63):=(Zhb Yy2 Yy1).to (by kernel_rfl)
theorem k34:IsN 8 9223372105574252544 (X3 A p4):=Zbe (Zb5 _ _) (by kernel_rfl)
theorem k35:IsN 8 35184372351489 (X3 A p5):=Zbe (Zb5 _ _) (by kernel_rfl)
theorem k36:IsN 8 9223407289946604033 (X3 A p6):=(Zav k34 k35).to (by kernel_rfl)
theorem k33:IsN 8 36239903521570044 (X3 A p3):=Zbe (Zst _) (by kernel_rfl)
theorem k37:IsN 8 36239903521505280 (X3 A p7):=(Zgl k33 th3).to (by kernel_rfl)
theorem Yu9:IsN 8 211106234105856 (X3 A p20):=(Zag k36 k37).to (by kernel_rfl)
theorem Yzs:IsN 8 0 (X3 A p24):=Zbe (Zb5 _ _) (by kernel_rfl)
theorem Yzr:IsN 8 0 (X3 A p25):=(Zag Yu9 Yzs).to (by kernel_rfl)
theorem Yzq:IsN 8 0 (X3 A p26):=(Zag Yzr k37).to (by kernel_rfl)
theorem Yu7:IsN 8 0 (X3 A p27):=(Zag Yzq k36).to (by kernel_rfl)
theorem Yzv:IsN 8 18014398643699712 (X3 A p19):=Zbe (Zb5 _ _) (by kernel_rfl)
theorem Yzu:IsN 8 70368744701952 (X3 A p21):=(Zag Yu9 Yzv).to (by kernel_rfl)
theorem Yzt:IsN 8 140737489403904 (X3 A p22):=(Zag Yzu k37).to (by kernel_rfl)
theorem Yu8:IsN 8 140737489403904 (X3 A p23):=(Zag Yzt k36).to (by kernel_rfl)
theorem Yzp:IsN 8 140737489403904 (X3 A p28):=(Zag k35 Yu8).to (by kernel_rfl)
theorem Yzo:IsN 8 140737489403904 (X3 A p29):=(Zag Yzp k34).to (by kernel_rfl)
theorem Yzn:IsN 8 0 (X3 A p30):=(Zdm Yu8 Yzo).to (by kernel_rfl)
theorem k331:IsN 8 0 (X3 A p31):=(Zav Yu7 Yzn).to (by kernel_rfl)
theorem Yu6:IsN 8 0 (X3 A p32):=(Zgl k30 th3).to (by kernel_rfl)
theorem Ynm:IsN 8 4224 (X3 A p33):=(Zdm k30 Yu6).to (by kernel_rfl)
theorem Yzk:IsN 8 0 (X3 A p38):=(Zag Ynm k331).to (by kernel_rfl)
theorem Yzj:IsN 8 0 (X3 A p39):=(Zav k331 Yzk).to (by kernel_rfl)
theorem Yzi:IsN 8 12420 (X3 A p41):=(Zav k30 k31).to (by kernel_rfl)
theorem Yzh:IsN 8 288230513590677636 (X3 A p42):=(Zav Yzi k39).to (by kernel_rfl)
theorem Yze:IsN 8 288230513590677636 (X3 A p45):=(Zb1 Yzh (by kernel_rfl)).to (by kernel_rfl)
theorem Yzd:IsN 8 9529652202180981381 (X3 A p46):=(Zdt Yze).to (by kernel_rfl)
theorem of3:IsN 8 0 (ofM (g3 A).n []):=Zbe (Zdo _ _) (by kernel_rfl)
theorem st3:Zac (g3 A)=fun _=>Za1:=by
 have z:=@of3 A
 have a0:IsN 8 0 (Zac (g3 A) 0):=(Zav (Zav z (Zhb Ynl (Zag Yos Ynm))) Yu6).to (by kernel_rfl)
 have a2:IsN 8 0 (Zac (g3 A) 2):=(Zav (Zag z (Zav k34 k35)) (Zhb Ynl (Zag Yu2 Ynm))).to (by kernel_rfl)
 have a3:IsN 8 0 (Zac (g3 A) 3):=(Zav (Zav z Ynl) (Zag z (Zav k34 k35))).to (by kernel_rfl)
 funext j
 match j with
 | 0=>exact Zem a0
 | 1=>rfl
 | 2=>exact Zem a2
 | 3=>exact Zem a3
 | j+4=>rfl
theorem Yz2:IsN 8 0 (X3 A p10):=(show IsN 8 0 (Zk7 (Zac (g3 A)) 0) from (Zfw st3 0).symm▸Zsy 8)
theorem Yz0:IsN 8 0 (X3 A p14):=(Zag k34 Yz2).to (by kernel_rfl)
theorem Yzz:IsN 8 0 (X3 A p15):=(Zag Yz0 k34).to (by kernel_rfl)
theorem Yz1:IsN 8 0 (X3 A p11):=(show IsN 8 0 (Zk7 (Zac (g3 A)) 1) from (Zfw st3 1).symm▸Zsy 8)
theorem Yzy:IsN 8 0 (X3 A p16):=(Zag k34 Yz1).to (by kernel_rfl)
theorem Yzx:IsN 8 0 (X3 A p17):=(Zag Yzy k35).to (by kernel_rfl)
theorem Yzw:IsN 8 0 (X3 A p18):=(Zav Yzz Yzx).to (by kernel_rfl)
theorem Yzm:IsN 8 0 (X3 A p34):=(Zav Yzw k331).to (by kernel_rfl)
theorem Yu5:IsN 8 4224 (X3 A p35):=(Zav Yzm Ynm).to (by kernel_rfl)
theorem Yzl:IsN 8 4224 (X3 A p36):=(Zb1 Yu5 (by kernel_rfl)).to (by kernel_rfl)
theorem Yot:IsN 8 9241421688590307969 (X3 A p37):=(Zdt Yzl).to (by kernel_rfl)
theorem Yu4:IsN 8 0 (X3 A p40):=(Zag Yzj Yot).to (by kernel_rfl)
theorem Yzg:IsN 8 0 (X3 A p43):=(Zag k35 Yu4).to (by kernel_rfl)
theorem Yzf:IsN 8 0 (X3 A p44):=(Zag Yzg k35).to (by kernel_rfl)
theorem Yzc:IsN 8 0 (X3 A p47):=(Zb1 Yu4 (by kernel_rfl)).to (by kernel_rfl)
theorem Yzb:IsN 8 9241421688590303745 (X3 A p48):=(Zdt Yzc).to (by kernel_rfl)
theorem Yza:IsN 8 9529652202180981381 (X3 A p49):=(Zag Yzd Yzb).to (by kernel_rfl)
theorem Yy9:IsN 8 0 (X3 A p50):=(Zag Yza Yu7).to (by kernel_rfl)
theorem Yy8:IsN 8 0 (X3 A p51):=(Zag Yy9 Yot).to (by kernel_rfl)
theorem Yu3:IsN 8 0 (X3 A p52):=(Zav Yzf Yy8).to (by kernel_rfl)
theorem Yyz:IsN 8 0 (X3 A p64):=(Zag Yos Yu3).to (by kernel_rfl)
theorem Yyy:IsN 8 0 (X3 A p65):=(Zag Yyz Yot).to (by kernel_rfl)
theorem Yyx:IsN 8 8196 (X3 A p66):=(Zav k31 Yu3).to (by kernel_rfl)
theorem Xbq (c:Cx (g3 A) none [] 0 w0) (w:World) (hb:Below w0.heap.size w0 w):Calls Tryz.prog 14 #[(g3 A).v] w fun e w'=>e=.returned (.bool true)/\Below w.heap.size w w':=
 Zra c false true false false false (Zdk (Zb1 Yy5 (by kernel_rfl)) _ (by kernel_rfl)) (Zp4 Yy0) (Zdk (Zb1 Yu5 (by kernel_rfl)) _ (by kernel_rfl)) (Zdk Yyy _ (by kernel_rfl)) (Zdk (Zb1 Yyx (by kernel_rfl)) _ (by kernel_rfl)) w hb
theorem ck3:CheckOk (g3 A):=by
 refine⟨by simp[g3,Zda],by simp[g3,Zda],by simp[g3,Zda,bE3],by simp[g3,Zda,bE3],rfl,rfl,fun i hi=>?_,fun t ht=>?_,⟨fun k hk=>(by cases hk),fun i hi=>?_,fun k _ hk=>(by cases hk)⟩,⟨fun k hk=>(by cases hk),fun k _ hk=>(by cases hk)⟩,⟨fun k hk=>(by cases hk),fun k _ hk=>(by cases hk)⟩,⟨fun k hk=>(by cases hk),fun k _ hk=>(by cases hk)⟩⟩
 ·have hi6:i<8:=hi
  have hc:i=0∨i=1∨i=2∨i=3∨i=4∨i=5∨i=6∨i=7:=by omega
  rcases hc with rfl | rfl | rfl | rfl | rfl | rfl | rfl | rfl
  ·exact⟨by kernel_rfl,fun h=>absurd h (show ¬ (2:Int)=1 by decide),fun _=>rfl⟩
  ·exact⟨by kernel_rfl,fun h=>absurd h (show ¬ (2:Int)=1 by decide),fun _=>rfl⟩
  ·exact⟨by kernel_rfl,fun h=>absurd h (show ¬ (2:Int)=1 by decide),fun _=>rfl⟩
  ·exact⟨by kernel_rfl,fun h=>absurd h (show ¬ (3:Int)=1 by decide),fun _=>rfl⟩
  ·exact⟨by kernel_rfl,fun _=>⟨1,rfl,by simp[g3,Zda,bE3],rfl,rfl,rfl⟩,fun h=>absurd rfl h⟩
  ·exact⟨by kernel_rfl,fun h=>absurd h (show ¬ (2:Int)=1 by decide),fun _=>rfl⟩
  ·exact⟨by kernel_rfl,fun h=>absurd h (show ¬ (3:Int)=1 by decide),fun _=>rfl⟩
  ·exact⟨by kernel_rfl,fun _=>⟨0,rfl,by simp[g3,Zda,bE3],rfl,rfl,rfl⟩,fun h=>absurd rfl h⟩
 ·have ht2:t<2:=ht
  have hc:t=0∨t=1:=by omega
  rcases hc with rfl | rfl
  ·refine⟨fun j hj=>?_,fun j hj q hq=>?_,by kernel_rfl,by simp[g3,Zda],rfl⟩
   ·have hj2:j<2:=hj
    have hc:j=0∨j=1:=by omega
    rcases hc with rfl | rfl
    ·exact⟨0,rfl,by simp[g3,Zda,bE3],rfl,rfl⟩
    ·exact⟨2,rfl,by simp[g3,Zda,bE3],rfl,rfl⟩
   ·have hj2:j<2:=hj
    have h1:j=1:=by omega
    have h0:q=0:=by omega
    subst h1 h0
    show(0:Int)≠2
    decide
  ·refine⟨fun j hj=>?_,fun j hj q hq=>?_,by kernel_rfl,by simp[g3,Zda],rfl⟩
   ·have hj2:j<2:=hj
    have hc:j=0∨j=1:=by omega
    rcases hc with rfl | rfl
    ·exact⟨1,rfl,by simp[g3,Zda,bE3],rfl,rfl⟩
    ·exact⟨5,rfl,by simp[g3,Zda,bE3],rfl,rfl⟩
   ·have hj2:j<2:=hj
    have h1:j=1:=by omega
    have h0:q=0:=by omega
    subst h1 h0
    show(1:Int)≠5
    decide
 ·have hi6:i<8:=hi
  have hc:i=0∨i=1∨i=2∨i=3∨i=4∨i=5∨i=6∨i=7:=by omega
  rcases hc with rfl | rfl | rfl | rfl | rfl | rfl | rfl | rfl<;>exact⟨show(0:Int)<=1 by decide,by kernel_rfl⟩
def g4 (A:Ad):Gr:=Zda bE4 bR4 [0,2] [1,5] A.ea A.ec A.ra A.rc A.ca A.cc A.a0 A.c0 A.a1 A.c1
noncomputable abbrev X4 (A:Ad) (t:RV):=mx (g4 A) [] (Zac (g4 A)) t
theorem th4:∀ i j,i<8->j<8->Zju 8 16204197870614348547 i j=((Ev.at bE4 i).th==(Ev.at bE4 j).th):=fun i j hi hj=>by
 have h:((List.range 8).all fun i=>(List.range 8).all fun j=>Zju 8 16204197870614348547 i j==((Ev.at bE4 i).th==(Ev.at bE4 j).th))=true:=by kernel_rfl
 exact eq_of_beq (List.all_eq_true.1 (List.all_eq_true.1 h i (List.mem_range.2 hi)) j (List.mem_range.2 hj))
theorem k42:IsN 8 12420 (X4 A p2):=Zbe (Zjy _) (by kernel_rfl)
theorem Ynj:IsN 8 0 (X4 A p53):=(Zgl k42 th4).to (by kernel_rfl)
theorem k40:IsN 8 4224 (X4 A p0):=Zbe (Zdo _ _) (by kernel_rfl)
theorem Yx1:IsN 8 4224 (X4 A p54):=(Zav Ynj k40).to (by kernel_rfl)
theorem k41:IsN 8 8196 (X4 A p1):=Zbe (Zdo _ _) (by kernel_rfl)
theorem Yx0:IsN 8 12420 (X4 A p55):=(Zav Yx1 k41).to (by kernel_rfl)
theorem k48:IsN 8 72057602627862528 (X4 A p8):=(Zqd k40).to (by kernel_rfl)
theorem k49:IsN 8 288230513590665216 (X4 A p9):=(Zag k48 k41).to (by kernel_rfl)
theorem Yxz:IsN 8 288230513590677636 (X4 A p56):=(Zav Yx0 k49).to (by kernel_rfl)
theorem Yxy:IsN 8 0 (X4 A p57):=(Zgl k49 th4).to (by kernel_rfl)
theorem Yop:IsN 8 288230513590665216 (X4 A p58):=(Zdm k49 Yxy).to (by kernel_rfl)
theorem Yxx:IsN 8 0 (X4 A p59):=(Zgl k41 th4).to (by kernel_rfl)
theorem Yuv:IsN 8 8196 (X4 A p60):=(Zdm k41 Yxx).to (by kernel_rfl)
theorem Yxw:IsN 8 0 (X4 A p61):=(Zag Yop Yuv).to (by kernel_rfl)
theorem Yxv:IsN 8 0 (X4 A p62):=Zbe (Zdo _ _) (by kernel_rfl)
theorem Yxu:IsN 8 0 (X4 A p63):=(Zhb Yxw Yxv).to (by kernel_rfl)
theorem k44:IsN 8 9223372105574252544 (X4 A p4):=Zbe (Zb5 _ _) (by kernel_rfl)
theorem k45:IsN 8 35184372351489 (X4 A p5):=Zbe (Zb5 _ _) (by kernel_rfl)
theorem k46:IsN 8 9223407289946604033 (X4 A p6):=(Zav k44 k45).to (by kernel_rfl)
theorem k43:IsN 8 36239903521570044 (X4 A p3):=Zbe (Zst _) (by kernel_rfl)
theorem k47:IsN 8 36239903521505280 (X4 A p7):=(Zgl k43 th4).to (by kernel_rfl)
theorem Yu1:IsN 8 211106234105856 (X4 A p20):=(Zag k46 k47).to (by kernel_rfl)
theorem Yym:IsN 8 18014398643699712 (X4 A p24):=Zbe (Zb5 _ _) (by kernel_rfl)
theorem Yyl:IsN 8 70368744701952 (X4 A p25):=(Zag Yu1 Yym).to (by kernel_rfl)
theorem Yyk:IsN 8 140737489403904 (X4 A p26):=(Zag Yyl k47).to (by kernel_rfl)
theorem k427:IsN 8 140737489403904 (X4 A p27):=(Zag Yyk k46).to (by kernel_rfl)
theorem Yyp:IsN 8 0 (X4 A p19):=Zbe (Zb5 _ _) (by kernel_rfl)
theorem Yyo:IsN 8 0 (X4 A p21):=(Zag Yu1 Yyp).to (by kernel_rfl)
theorem Yyn:IsN 8 0 (X4 A p22):=(Zag Yyo k47).to (by kernel_rfl)
theorem Yu0:IsN 8 0 (X4 A p23):=(Zag Yyn k46).to (by kernel_rfl)
theorem Yyj:IsN 8 0 (X4 A p28):=(Zag k45 Yu0).to (by kernel_rfl)
theorem Yyi:IsN 8 0 (X4 A p29):=(Zag Yyj k44).to (by kernel_rfl)
theorem Yyh:IsN 8 0 (X4 A p30):=(Zdm Yu0 Yyi).to (by kernel_rfl)
theorem Yor:IsN 8 140737489403904 (X4 A p31):=(Zav k427 Yyh).to (by kernel_rfl)
theorem Yuz:IsN 8 0 (X4 A p32):=(Zgl k40 th4).to (by kernel_rfl)
theorem Ynk:IsN 8 4224 (X4 A p33):=(Zdm k40 Yuz).to (by kernel_rfl)
theorem Yye:IsN 8 0 (X4 A p38):=(Zag Ynk Yor).to (by kernel_rfl)
theorem Yyd:IsN 8 140737489403904 (X4 A p39):=(Zav Yor Yye).to (by kernel_rfl)
theorem Yyc:IsN 8 12420 (X4 A p41):=(Zav k40 k41).to (by kernel_rfl)
theorem Yyb:IsN 8 288230513590677636 (X4 A p42):=(Zav Yyc k49).to (by kernel_rfl)
theorem Yx8:IsN 8 288230513590677636 (X4 A p45):=(Zb1 Yyb (by kernel_rfl)).to (by kernel_rfl)
theorem Yx7:IsN 8 9529652202180981381 (X4 A p46):=(Zdt Yx8).to (by kernel_rfl)
theorem of4:IsN 8 0 (ofM (g4 A).n []):=Zbe (Zdo _ _) (by kernel_rfl)
theorem st4:Zac (g4 A)=fun _=>Za1:=by
 have z:=@of4 A
 have a0:IsN 8 0 (Zac (g4 A) 0):=(Zav (Zav z (Zhb Ynj (Zag Yop Ynk))) Yuz).to (by kernel_rfl)
 have a2:IsN 8 0 (Zac (g4 A) 2):=(Zav (Zag z (Zav k44 k45)) (Zhb Ynj (Zag Yuv Ynk))).to (by kernel_rfl)
 have a3:IsN 8 0 (Zac (g4 A) 3):=(Zav (Zav z Ynj) (Zag z (Zav k44 k45))).to (by kernel_rfl)
 funext j
 match j with
 | 0=>exact Zem a0
 | 1=>rfl
 | 2=>exact Zem a2
 | 3=>exact Zem a3
 | j+4=>rfl
theorem Yyw:IsN 8 0 (X4 A p10):=(show IsN 8 0 (Zk7 (Zac (g4 A)) 0) from (Zfw st4 0).symm▸Zsy 8)
theorem Yyu:IsN 8 0 (X4 A p14):=(Zag k44 Yyw).to (by kernel_rfl)
theorem Yyt:IsN 8 0 (X4 A p15):=(Zag Yyu k44).to (by kernel_rfl)
theorem Yyv:IsN 8 0 (X4 A p11):=(show IsN 8 0 (Zk7 (Zac (g4 A)) 1) from (Zfw st4 1).symm▸Zsy 8)
theorem Yys:IsN 8 0 (X4 A p16):=(Zag k44 Yyv).to (by kernel_rfl)
theorem Yyr:IsN 8 0 (X4 A p17):=(Zag Yys k45).to (by kernel_rfl)
theorem Yyq:IsN 8 0 (X4 A p18):=(Zav Yyt Yyr).to (by kernel_rfl)
theorem Yyg:IsN 8 140737489403904 (X4 A p34):=(Zav Yyq Yor).to (by kernel_rfl)
theorem Yuy:IsN 8 140737489408128 (X4 A p35):=(Zav Yyg Ynk).to (by kernel_rfl)
theorem Yyf:IsN 8 140737489408128 (X4 A p36):=(Zb1 Yuy (by kernel_rfl)).to (by kernel_rfl)
theorem Yoq:IsN 8 9241562426079711873 (X4 A p37):=(Zdt Yyf).to (by kernel_rfl)
theorem Yux:IsN 8 140737489403904 (X4 A p40):=(Zag Yyd Yoq).to (by kernel_rfl)
theorem Yya:IsN 8 140737489403904 (X4 A p43):=(Zag k45 Yux).to (by kernel_rfl)
theorem Yx9:IsN 8 0 (X4 A p44):=(Zag Yya k45).to (by kernel_rfl)
theorem Yx6:IsN 8 140737489403904 (X4 A p47):=(Zb1 Yux (by kernel_rfl)).to (by kernel_rfl)
theorem Yx5:IsN 8 9241562426079707649 (X4 A p48):=(Zdt Yx6).to (by kernel_rfl)
theorem Yx4:IsN 8 10682714994033078933 (X4 A p49):=(Zag Yx7 Yx5).to (by kernel_rfl)
theorem Yx3:IsN 8 1153062791852097552 (X4 A p50):=(Zag Yx4 k427).to (by kernel_rfl)
theorem Yx2:IsN 8 1153062791852097552 (X4 A p51):=(Zag Yx3 Yoq).to (by kernel_rfl)
theorem Yuw:IsN 8 1153062791852097552 (X4 A p52):=(Zav Yx9 Yx2).to (by kernel_rfl)
theorem Yxt:IsN 8 1152922054362660864 (X4 A p64):=(Zag Yop Yuw).to (by kernel_rfl)
theorem Yxs:IsN 8 1152922054362660864 (X4 A p65):=(Zag Yxt Yoq).to (by kernel_rfl)
theorem Yxr:IsN 8 1153062791852105748 (X4 A p66):=(Zav k41 Yuw).to (by kernel_rfl)
theorem Xbp (c:Cx (g4 A) none [] 0 w0) (w:World) (hb:Below w0.heap.size w0 w):Calls Tryz.prog 14 #[(g4 A).v] w fun e w'=>e=.returned (.bool false)/\Below w.heap.size w w':=
 Zra c false true false false true (Zdk (Zb1 Yxz (by kernel_rfl)) _ (by kernel_rfl)) (Zp4 Yxu) (Zdk (Zb1 Yuy (by kernel_rfl)) _ (by kernel_rfl)) (Zdk Yxs _ (by kernel_rfl)) (Zdk (Zb1 Yxr (by kernel_rfl)) _ (by kernel_rfl)) w hb
theorem ck4:CheckOk (g4 A):=by
 refine⟨by simp[g4,Zda],by simp[g4,Zda],by simp[g4,Zda,bE4],by simp[g4,Zda,bE4],rfl,rfl,fun i hi=>?_,fun t ht=>?_,⟨fun k hk=>(by cases hk),fun i hi=>?_,fun k _ hk=>(by cases hk)⟩,⟨fun k hk=>(by cases hk),fun k _ hk=>(by cases hk)⟩,⟨fun k hk=>(by cases hk),fun k _ hk=>(by cases hk)⟩,⟨fun k hk=>(by cases hk),fun k _ hk=>(by cases hk)⟩⟩
 ·have hi6:i<8:=hi
  have hc:i=0∨i=1∨i=2∨i=3∨i=4∨i=5∨i=6∨i=7:=by omega
  rcases hc with rfl | rfl | rfl | rfl | rfl | rfl | rfl | rfl
  ·exact⟨by kernel_rfl,fun h=>absurd h (show ¬ (2:Int)=1 by decide),fun _=>rfl⟩
  ·exact⟨by kernel_rfl,fun h=>absurd h (show ¬ (2:Int)=1 by decide),fun _=>rfl⟩
  ·exact⟨by kernel_rfl,fun h=>absurd h (show ¬ (2:Int)=1 by decide),fun _=>rfl⟩
  ·exact⟨by kernel_rfl,fun h=>absurd h (show ¬ (3:Int)=1 by decide),fun _=>rfl⟩
  ·exact⟨by kernel_rfl,fun _=>⟨1,rfl,by simp[g4,Zda,bE4],rfl,rfl,rfl⟩,fun h=>absurd rfl h⟩
  ·exact⟨by kernel_rfl,fun h=>absurd h (show ¬ (2:Int)=1 by decide),fun _=>rfl⟩
  ·exact⟨by kernel_rfl,fun h=>absurd h (show ¬ (3:Int)=1 by decide),fun _=>rfl⟩
  ·exact⟨by kernel_rfl,fun _=>⟨0,rfl,by simp[g4,Zda,bE4],rfl,rfl,rfl⟩,fun h=>absurd rfl h⟩
 ·have ht2:t<2:=ht
  have hc:t=0∨t=1:=by omega
  rcases hc with rfl | rfl
  ·refine⟨fun j hj=>?_,fun j hj q hq=>?_,by kernel_rfl,by simp[g4,Zda],rfl⟩
   ·have hj2:j<2:=hj
    have hc:j=0∨j=1:=by omega
    rcases hc with rfl | rfl
    ·exact⟨0,rfl,by simp[g4,Zda,bE4],rfl,rfl⟩
    ·exact⟨2,rfl,by simp[g4,Zda,bE4],rfl,rfl⟩
   ·have hj2:j<2:=hj
    have h1:j=1:=by omega
    have h0:q=0:=by omega
    subst h1 h0
    show(0:Int)≠2
    decide
  ·refine⟨fun j hj=>?_,fun j hj q hq=>?_,by kernel_rfl,by simp[g4,Zda],rfl⟩
   ·have hj2:j<2:=hj
    have hc:j=0∨j=1:=by omega
    rcases hc with rfl | rfl
    ·exact⟨1,rfl,by simp[g4,Zda,bE4],rfl,rfl⟩
    ·exact⟨5,rfl,by simp[g4,Zda,bE4],rfl,rfl⟩
   ·have hj2:j<2:=hj
    have h1:j=1:=by omega
    have h0:q=0:=by omega
    subst h1 h0
    show(1:Int)≠5
    decide
 ·have hi6:i<8:=hi
  have hc:i=0∨i=1∨i=2∨i=3∨i=4∨i=5∨i=6∨i=7:=by omega
  rcases hc with rfl | rfl | rfl | rfl | rfl | rfl | rfl | rfl<;>exact⟨show(0:Int)<=1 by decide,by kernel_rfl⟩
end L20
end ToldP
end Go.Proofs.YthcnhbclagegeaaGreatDoor
