/-
  One text of a symbolic evaluator over the model, shown sound once for every program: no statement is claimed here.
-/
import Derived.Test.YthfaoceleaaepaaGreatDoorRnU
namespace Go.Rn
variable {ρ:Nat→Int} {m m':Mp} {P:Program}
variable {g fl n n' nt:Nat} {h h':HT} {t:FT} {a:Act} {w:World} {v:RV} {ys:Ys} {cl:Cl'}
theorem rngs_sub:∀ (c:Code) (i:Nat) (ps:Array Tmp) (x y:Code),(rngs c)[i]?=some (ps,x,y)→∀ (j:Nat) (z:Array Tmp × Code × Code),(rngs x ++ rngs y)[j]?=some z→(rngs c)[i + 1 + j]?=some z:=by
 have app:∀ (A B:List (Array Tmp × Code × Code)) (i:Nat) (ps:Array Tmp) (x y:Code),(∀ i,A[i]?=some (ps,x,y)→∀ (j:Nat) (z:Array Tmp × Code × Code),(rngs x ++ rngs y)[j]?=some z→A[i + 1 + j]?=some z) →
   (∀ i,B[i]?=some (ps,x,y)→∀ (j:Nat) (z:Array Tmp × Code × Code),(rngs x ++ rngs y)[j]?=some z→B[i + 1 + j]?=some z)→(A ++ B)[i]?=some (ps,x,y)→∀ (j:Nat) (z:Array Tmp × Code × Code),(rngs x ++ rngs y)[j]?=some z→(A ++ B)[i + 1 + j]?=some z:=by
  intro A B i ps x y hA hB hi j z hj
  rcases Nat.lt_or_ge i A.length with q | q
  ·rw [List.getElem?_append_left q] at hi
   have:=hA i hi j z hj
   rw [List.getElem?_append_left (List.getElem?_eq_some_iff.1 this).1]; exact this
  ·rw [List.getElem?_append_right q] at hi
   have:=hB _ hi j z hj
   rw [List.getElem?_append_right (by omega),show i + 1 + j - A.length=i - A.length + 1 + j by omega]; exact this
 intro c
 induction c with
 | seq a b iha ihb=>intro i ps x y; exact app _ _ i ps x y (fun i=>iha i ps x y) (fun i=>ihb i ps x y)
 | cond o a b iha ihb=>intro i ps x y; exact app _ _ i ps x y (fun i=>iha i ps x y) (fun i=>ihb i ps x y)
 | block id a ih=>exact ih
 | loop a ih=>exact ih
 | scope a ih=>exact ih
 | rangeFunc g ps0 a b iha ihb=>
  intro i ps x y hi j z hj
  cases i with
  | zero=>
   have e:(ps0,a,b)=(ps,x,y):=Option.some.inj hi
   cases e
   show ((ps0,a,b)::(rngs a ++ rngs b))[0 + 1 + j]?=some z
   rw [show 0 + 1 + j=j + 1 by omega,List.getElem?_cons_succ]; exact hj
  | succ i=>
   have hi':(rngs a ++ rngs b)[i]?=some (ps,x,y):=hi
   show ((ps0,a,b)::(rngs a ++ rngs b))[i + 1 + 1 + j]?=some z
   rw [show i + 1 + 1 + j=(i + 1 + j) + 1 by omega,List.getElem?_cons_succ]
   exact app _ _ i ps x y (fun i=>iha i ps x y) (fun i=>ihb i ps x y) hi' j z hj
 | _=>intro i ps x y hi; cases hi
theorem loopAt_sub {key f0 nt0:Nat} {ps:Array Tmp} {x y:Code} (hl:loopAt P key=some (f0,nt0,ps,x,y)):f0=key / 256∧∀ (j:Nat) (z:Array Tmp × Code × Code),(rngs x ++ rngs y)[j]?=some z→key % 256 + 1 + j < 256∧loopAt P (keyAt f0 (key % 256 + 1 + j))=some (f0,nt0,z.1,z.2.1,z.2.2):=by
 unfold loopAt at hl
 simp only [Option.bind_eq_bind,Option.bind_eq_some_iff] at hl
 obtain ⟨fn,h1,c,h2,h3⟩:=hl
 split at h3
 case isFalse=>cases h3
 rename_i hlen
 simp only [Option.bind_eq_some_iff] at h3
 obtain ⟨⟨p1,x1,y1⟩,h4,h5⟩:=h3
 cases h5
 refine ⟨rfl,fun j z hj=>?_⟩
 have h6:=rngs_sub c _ _ _ _ h4 j z hj
 have h7:=(List.getElem?_eq_some_iff.1 h6).1
 refine ⟨by omega,?_⟩
 have k1:keyAt (key / 256) (key % 256 + 1 + j) / 256=key / 256:=by unfold keyAt; omega
 have k2:keyAt (key / 256) (key % 256 + 1 + j) % 256=key % 256 + 1 + j:=by unfold keyAt; omega
 unfold loopAt
 rw [k1,k2]
 simp [h1,h2,h6,hlen]
theorem rd_get {c:CT}:∀ (q k:Nat),rd c q k ≠ .un→∀ j,j < q→chGet (rd c q k) j=cg c (k + j)
 | 0,_,_,j,hj=>by omega
 | q + 1,k,hu,j,hj=>by
  have e:rd c (q + 1) k=kons (cg c k) (rd c q (k + 1)):=rfl
  obtain ⟨_,h2,h3⟩:=kons_ok e.symm hu
  rw [h3]
  cases j with
  | zero=>rfl
  | succ j=>
   show chGet (rd c q (k + 1)) j=_
   rw [rd_get q (k + 1) h2 j (by omega),show k + 1 + j=k + (j + 1) by omega]
theorem rd_un {c:CT}:∀ (q k:Nat),rd c q k ≠ .un→∀ j,j < q→cg c (k + j) ≠ .un
 | 0,_,_,j,hj=>by omega
 | q + 1,k,hu,j,hj=>by
  have e:rd c (q + 1) k=kons (cg c k) (rd c q (k + 1)):=rfl
  obtain ⟨h1,h2,_⟩:=kons_ok e.symm hu
  cases j with
  | zero=>exact h1
  | succ j=>rw [show k + (j + 1)=k + 1 + j by omega]; exact rd_un q (k + 1) h2 j (by omega)
theorem laySl_get:∀ (l:List Pa) (c:RV) (t t':FT),laySl l c t=some t'→∀ k,T.get .un t' k=T.get .un t k ∨ ∃ j p,l[j]?=some p∧p.val=k∧T.get .un t' k=chGet c j
 | [],c,t,t',e,k=>by
  have e1:gN none c (some t) (fun _ _=>none)=some t':=e
  rcases gN_ok e1 (by simp) with ⟨_,e2⟩ | ⟨_,_,_,e2⟩
  ·cases e2; exact .inl rfl
  ·cases e2
 | p::l,c,t,t',e,k=>by
  have e1:gN none c none (fun x r=>laySl l r (tst t x p))=some t':=e
  rcases gN_ok e1 (by simp) with ⟨_,e2⟩ | ⟨x,r,rfl,e2⟩
  ·cases e2
  rcases laySl_get l r _ _ e2 k with h1 | ⟨j,q,h1,h2,h3⟩
  ·have hs:T.get .un (tst t x p) k=if k=p.val then x else T.get .un t k:=setP_get _ _ _ _ _
   rw [hs] at h1
   by_cases hk:k=p.val
   ·rw [if_pos hk] at h1
    exact .inr ⟨0,p,rfl,hk.symm,h1⟩
   ·rw [if_neg hk] at h1; exact .inl h1
  ·exact .inr ⟨j + 1,q,h1,h2,h3⟩
theorem laySl_fr {nt:Nat}:∀ (ps:List Nat) (xs:RV) (args:List Value) (t t':FT) (tmps:Array Value),(∀ i ∈ ps,i < nt)→Fr P ρ m nt t tmps→denC ρ m xs args→laySl (ps.map fun i=>pa 20 (i + 1)) xs t=some t' →
  args.length=ps.length∧Fr P ρ m nt t' ((ps.zip args).foldl (fun (t:Array Value) (x:Tmp × Value)=>t.setIfInBounds x.1 x.2) tmps)
 | [],xs,args,t,t',tmps,_,F,hd,e=>by
  have e1:gN none xs (some t) (fun _ _=>none)=some t':=e
  rcases gN_ok e1 (by simp) with ⟨h1,e2⟩ | ⟨_,_,_,e2⟩
  ·cases e2
   subst h1
   rw [denC_nil.1 hd]
   exact ⟨rfl,F⟩
  ·cases e2
 | i::ps,xs,args,t,t',tmps,hi,F,hd,e=>by
  have e1:gN none xs none (fun x r=>laySl (ps.map fun i=>pa 20 (i + 1)) r (tst t x (pa 20 (i + 1))))=some t':=e
  rcases gN_ok e1 (by simp) with ⟨_,e2⟩ | ⟨x,r,rfl,e2⟩
  ·cases e2
  obtain ⟨u,us,rfl,hu,hus⟩:=denC_cons.1 hd
  have hlt:=hi i List.mem_cons_self
  have F2:Fr P ρ m nt (tst t x (pa 20 (i + 1))) (tmps.setIfInBounds i u):=by
   have:=Fr.putD (a:={ tmps:=tmps,defers:=[] }) F (dst:=some i) (d:=.d (pa 20 (i + 1))) (by show (if i < nt then some (D.d (pa 20 (i + 1))) else none)=_; rw [if_pos hlt]) hu
   exact this
  obtain ⟨h1,h2⟩:=laySl_fr ps r us _ _ _ (fun k hk=>hi k (List.mem_cons_of_mem _ hk)) F2 hus e2
  exact ⟨by simp [h1],h2⟩
end Go.Rn
namespace Go.Rn
variable {ρ:Nat→Int} {m m':Mp} {P:Program}
variable {g fl n n' nt:Nat} {h h':HT} {t:FT} {a:Act} {w:World} {v:RV} {ys:Ys} {cl:Cl'}
theorem compR_ok {key k2 nv:Nat} {sv psl:List Pa} {A B:RC} (hc:compR P key=some (.r k2 nv sv psl A B)):∃ (f0 nt:Nat) (ps:Array Tmp) (x y:Code) (is:List Nat),loopAt P key=some (f0,nt,ps,x,y)∧k2=key∧nv=sv.length∧psl=slotsOf ps∧nt < 1000000∧(∀ i ∈ ps,i < nt) ∧
  A=comp P nt f0 x (key % 256 + 1)∧B=comp P nt f0 y (key % 256 + 1 + (rngs x).length)∧sv=is.map (fun i=>pa 20 (i + 1))∧∀ i ∈ is,i < nt:=by
 unfold compR at hc
 simp only [Option.bind_eq_bind,Option.bind_eq_some_iff] at hc
 obtain ⟨⟨f0,nt,ps,x,y⟩,h1,h2⟩:=hc
 simp only at h2
 split at h2
 case isFalse=>cases h2
 rename_i hk
 simp only [Bool.and_eq_true,decide_eq_true_eq,List.all_eq_true] at hk
 obtain ⟨is,his,hin⟩:=svOf_is nt (slotsOf ps) (comp P nt f0 x (key % 256 + 1)) (comp P nt f0 y (key % 256 + 1 + (rngs x).length))
 have h3:=Option.some.inj h2
 injection h3 with e1 e2 e3 e4 e5 e6
 exact ⟨f0,nt,ps,x,y,is,h1,e1.symm,by rw [← e2,← e3],e4.symm,hk.1,fun i hi=>hk.2 i (by simpa using hi),e5.symm,e6.symm,by rw [← e3]; exact his,hin⟩
theorem rndSet_ok {key b:Nat} {st:RV} {ans:Bool} (e:rndSet key b st ans h n=.ok v h' n'):∃ cs,hg h b=.bk cs MAPZ∧cg cs 0=.fn key (.b true)∧v=.b ans∧h'=hst h (.bk (cst cs (.fn key st) 0) MAPZ) b∧n'=n:=by
 unfold rndSet at e
 obtain ⟨cs,h1,e1⟩:=gMK_ok e (by simp)
 obtain ⟨k,s,h2,e2⟩:=gF_ok e1 (by simp)
 obtain ⟨h3,e3⟩:=bf_ok e2 (by simp)
 obtain ⟨busy,h4,e4⟩:=gB_ok e3 (by simp)
 obtain ⟨h5,e5⟩:=bf_ok e4 (by simp)
 rw [fT_eq,fT_eq] at e5
 cases e5
 have hk:=Nat.eq_of_beq_eq_true h3
 subst hk; subst h4; subst h5
 exact ⟨cs,h1,h2,rfl,rfl,rfl⟩
theorem Sim.recOf {b key:Nat} {B O Z:Nat} {cs:CT} {st:RV} (s:Sim P ρ m g h w) (hb:hg h b=.bk cs MAPZ) (hc:cg cs 0=.fn key st) (hm:m b=some (B,O,Z)) {f0 nt:Nat} {ps:Array Tmp} {x y:Code} (hl:loopAt P key=some (f0,nt,ps,x,y)) :
  ∃ rec:Loop,w.heap[B]?=some (.loop rec)∧LSt st rec.state rec.pending∧rec.params=ps∧rec.assign=x∧rec.body=y∧nt≤rec.tmps.size∧∀ s' rec',cg (cst cs (.fn key s') 0) 0=.fn key s'→LSt s' rec'.state rec'.pending→rec'.params=rec.params→rec'.assign=rec.assign→rec'.body=rec.body→rec'.tmps=rec.tmps→Spec P ρ m (cst cs (.fn key s') 0) (O,Z) (.loop rec'):=by
 obtain ⟨B1,O1,Z1,rec,q1,q2,q3⟩:=s.loop hb hc
 rw [hm] at q1
 cases q1
 obtain ⟨key2,s2,nv,sv,psl,A,Bd,f2,nt2,p1,p2,p3,p4,p5,p6⟩:=q3
 rw [hc] at p1
 cases p1
 rw [hl] at p3
 have p3':=Option.some.inj p3
 simp only [Prod.mk.injEq] at p3'
 obtain ⟨rfl,rfl,e3,e4,e5⟩:=p3'
 refine ⟨rec,q2,p2,e3.symm,e4.symm,e5.symm,p5,fun s' rec' h1 h2 h3 h4 h5 h6=>?_⟩
 refine ⟨key,s',nv,sv,psl,A,Bd,f0,nt,h1,h2,by rw [h3,h4,h5,← e3,← e4,← e5]; exact hl,p4,by rw [h6]; exact p5,fun j p hj hu=>?_⟩
 rw [cg_cst_ne _ _ (by omega)] at hu ⊢
 rw [h6]
 exact p6 j p hj hu
theorem laySl_fr0 {nt:Nat} (hnt:nt < 1000000) {is:List Nat} (_hi:∀ i ∈ is,i < nt) {cs:CT} {tmps:Array Value} {t0:FT} (hsz:nt≤tmps.size) (gl:Glob P ρ m)
  (hv:∀ (j:Nat) (p:Pa),(is.map fun i=>pa 20 (i + 1))[j]?=some p→cg cs (1 + j) ≠ .un→den ρ m (cg cs (1 + j)) (tmps.getD (p.val - 1) undef))
  (hu:rd cs (is.map fun i=>pa 20 (i + 1)).length 1 ≠ .un) (e:laySl (is.map fun i=>pa 20 (i + 1)) (rd cs (is.map fun i=>pa 20 (i + 1)).length 1) te=some t0):Fr P ρ m nt t0 tmps:=by
 refine ⟨hsz,hnt,fun i hne=>?_,gl⟩
 rcases laySl_get _ _ te t0 e (i + 1) with h1 | ⟨j,p,h1,h2,h3⟩
 ·rw [h1] at hne; exact absurd (cg_ce i) hne
 ·have hj:j < (is.map fun i=>pa 20 (i + 1)).length:=(List.getElem?_eq_some_iff.1 h1).1
  rw [h3,rd_get _ _ hu j hj]
  have:=hv j p h1 (rd_un _ _ hu j hj)
  rw [h2] at this
  exact this
theorem zip_fold (ps:Array Tmp) (args:List Value) (tmps:Array Value):(ps.zip args.toArray).foldl (fun (t:Array Value) (x:Tmp × Value)=>t.setIfInBounds x.1 x.2) tmps=(ps.toList.zip args).foldl (fun (t:Array Value) (x:Tmp × Value)=>t.setIfInBounds x.1 x.2) tmps:=by
 rw [← Array.foldl_toList]
 simp
theorem round_ok (hy:YsOk ρ ys) (hdr:∀ (r:Option Nat) (cl:Cl') (fl nt:Nat),ClOk P ρ g cl→g≤fl→DrOk r P ρ g fl nt ys cl) {cl:Cl'} (ih:ClOk P ρ g cl) {key k2 nv:Nat} {sv psl:List Pa} {A Bd:RC} (hcR:compR P key=some (.r k2 nv sv psl A Bd)) {c:RV} {fl:Nat} {h:HT} {n:Nat} {v:RV} {h':HT} {n':Nat} (hgf:g≤fl) (hf:fl≤n)
  (e:rndC k2 nv sv psl (code ys cl fl A) (code ys cl fl Bd) c fl h n=.ok v h' n'):Ab fl h n h' n' ∧
  ∀ (m:Mp) (w:World) (vs:List Value),Sim P ρ m g h w→Glob P ρ m→denC ρ m c vs→Fresh n n' m→∃ B args,vs=.map (some B)::args∧RdIn P B args w (fun e w'=>∃ u m',e=.returned u∧Tr P ρ g fl h n m w h' n' m' w'∧den ρ m' v u):=by
 obtain ⟨f0,nt,ps,x,y,is,hl,rfl,rfl,rfl,hnt,hps,rfl,rfl,rfl,his⟩:=compR_ok hcR
 obtain ⟨hf0,hsub⟩:=loopAt_sub hl
 unfold rndC at e
 rcases gN_ok e (by simp) with ⟨_,e1⟩ | ⟨yv,xs,rfl,e1⟩
 ·cases e1
 obtain ⟨b,rfl,e2⟩:=gM_ok e1 (by simp)
 obtain ⟨hb1,e3⟩:=bf_ok e2 (by simp)
 have hflb:=ble_ok hb1
 obtain ⟨cs,hb,e4⟩:=gMK_ok e3 (by simp)
 obtain ⟨k,st,hk,e5⟩:=gF_ok e4 (by simp)
 obtain ⟨hk2,e6⟩:=bf_ok e5 (by simp)
 have hk2:=Nat.eq_of_beq_eq_true hk2
 subst hk2
 obtain ⟨hu,e7⟩:=nU_ok e6 (by simp)
 obtain ⟨t0,ht0,e8⟩:=gO_ok e7 (by simp)
 obtain ⟨t1,ht1,e9⟩:=gO_ok e8 (by simp)
 cases hX:code ys cl fl (comp P nt f0 x (k % 256 + 1)) t1 h n with
 | ex _ _ _ _=>rw [hX] at e9; cases e9
 | rt _ _ _=>rw [hX] at e9; cases e9
 | bad _=>rw [hX] at e9; cases e9
 | nx t2 h2 n2=>
 rw [hX] at e9
 have f1:gMK (SR.bad [195]) (hg h2 b) (fun cs=>gF (.bad [196]) (cg cs 0) fun k' s=>bf (Nat.beq k' k) (gB (.bad [197]) s fun busy=>bf busy (.bad [198]) (fT (cst cs (.fn k (.b true)) 0) fun cs=>fT (hst h2 (.bk cs MAPZ) b) fun h=>rndEnd k b (code ys cl fl (comp P nt f0 y (k % 256 + 1 + (rngs x).length)) t2 h n2))) (.bad [199]))=.ok v h' n':=e9
 obtain ⟨cs2,hb2,f2⟩:=gMK_ok f1 (by simp)
 obtain ⟨k',s2,hk',f3⟩:=gF_ok f2 (by simp)
 obtain ⟨hkk,f4⟩:=bf_ok f3 (by simp)
 have hkk:=Nat.eq_of_beq_eq_true hkk
 subst hkk
 obtain ⟨busy,rfl,f5⟩:=gB_ok f4 (by simp)
 rcases bf_or f5 with ⟨_,f6⟩ | ⟨hbz,f6⟩
 ·cases f6
 subst hbz
 rw [fT_eq,fT_eq] at f6
 obtain ⟨abA,kA⟩:=code_ok (r:=none) hnt hy ih hgf (hdr _ _ fl nt ih hgf) x (k' % 256 + 1) (fun j z hj=>hsub j z (by rw [List.getElem?_append_left (List.getElem?_eq_some_iff.1 hj).1]; exact hj)) t1 h n .normal t2 h2 n2 (by rw [hX]; exact brIs_nx.2 ⟨rfl,rfl,rfl,rfl⟩) hf
 have hn2:fl≤n2:=Nat.le_trans hf abA.le
 have abS:Ab fl h2 n2 (hst h2 (.bk (cst cs2 (.fn k' (.b true)) 0) MAPZ) b) n2:=Ab.set _ hflb (fun _ _ _=>⟨_,_,hb2⟩)
 have fin:∃ (ex:Exit) (t3:FT) (h3:HT) (n3:Nat) (st:RV) (ans:Bool) (jump:Option Code),brIs (code ys cl fl (comp P nt f0 y (k' % 256 + 1 + (rngs x).length)) t2 (hst h2 (.bk (cst cs2 (.fn k' (.b true)) 0) MAPZ) b) n2) ex t3 h3 n3∧rndSet k' b st ans h3 n3=.ok v h' n' ∧
   LSt st (if jump.isNone then .ready else .done) jump∧ans=jump.isNone∧((ex=.normal∧jump=none) ∨ (ex=.ret∧jump=some .ret) ∨ ∃ id,ex=.exit id∧jump=some (.exit id)):=by
  cases hB:code ys cl fl (comp P nt f0 y (k' % 256 + 1 + (rngs x).length)) t2 (hst h2 (.bk (cst cs2 (.fn k' (.b true)) 0) MAPZ) b) n2 with
  | nx t3 h3 n3=>rw [hB] at f6; exact ⟨.normal,t3,h3,n3,_,_,none,brIs_nx.2 ⟨rfl,rfl,rfl,rfl⟩,f6,.ready,rfl,.inl ⟨rfl,rfl⟩⟩
  | ex id t3 h3 n3=>rw [hB] at f6; exact ⟨.exit id,t3,h3,n3,_,_,some (.exit id),brIs_ex.2 ⟨rfl,rfl,rfl,rfl⟩,f6,.ex id,rfl,.inr (.inr ⟨id,rfl,rfl⟩)⟩
  | rt t3 h3 n3=>rw [hB] at f6; exact ⟨.ret,t3,h3,n3,_,_,some .ret,brIs_rt.2 ⟨rfl,rfl,rfl,rfl⟩,f6,.ret,rfl,.inr (.inl ⟨rfl,rfl⟩)⟩
  | bad l=>rw [hB] at f6; cases f6
 obtain ⟨ex,t3,h3,n3,stE,ans,jump,hbr,hset,hLSt,hans,hjump⟩:=fin
 have hsB:∀ (j:Nat) (z:Array Tmp × Code × Code),(rngs y)[j]?=some z→(k' % 256 + 1 + (rngs x).length) + j < 256∧loopAt P (keyAt f0 ((k' % 256 + 1 + (rngs x).length) + j))=some (f0,nt,z.1,z.2.1,z.2.2):=fun j z hj=>by
  have:=hsub ((rngs x).length + j) z (by rw [List.getElem?_append_right (by omega),Nat.add_sub_cancel_left]; exact hj)
  rw [← Nat.add_assoc] at this
  exact this
 have abB:=(code_ok (r:=none) hnt hy ih hgf (hdr _ _ fl nt ih hgf) y _ hsB t2 _ n2 ex t3 h3 n3 hbr hn2).1
 obtain ⟨cs3,hb3,hk3,rfl,rfl,rfl⟩:=rndSet_ok hset
 have abE:Ab fl h3 n' (hst h3 (.bk (cst cs3 (.fn k' stE) 0) MAPZ) b) n':=Ab.set _ hflb (fun _ _ _=>⟨_,_,hb3⟩)
 refine ⟨((abA.trans abS).trans abB).trans abE,fun m w vs s gl hd fr=>?_⟩
 obtain ⟨v0,args,rfl,hv0,hargs⟩:=denC_cons.1 hd
 obtain ⟨B,O,Z,hmb,rfl⟩:=hv0
 obtain ⟨rec,hrec,hst1,rfl,rfl,rfl,hsz,hspec⟩:=s.recOf hb hk hmb hl
 obtain ⟨_,_,_,rec0,q1,q2,q3⟩:=s.loop hb hk
 rw [hmb] at q1
 cases q1
 rw [hrec] at q2
 cases q2
 obtain ⟨key2,s0,nv0,sv0,psl0,A0,B0,f2,nt2,p1,p2,p3,p4,p5,p6⟩:=q3
 rw [hk] at p1
 cases p1
 rw [hcR] at p4
 cases p4
 have F0:=laySl_fr0 (P:=P) hnt his hsz gl p6 hu ht0
 obtain ⟨hlen,F1⟩:=laySl_fr rec.params.toList xs args t0 t1 rec.tmps (fun i hi=>hps i (by simpa using hi)) F0 hargs ht1
 refine ⟨B,args,rfl,rec,hrec,by rw [hlen]; simp,?_⟩
 refine roundIn_of_wpIn (F:=WF none) trivial ?_
 rw [zip_fold]
 obtain ⟨_,kA⟩:=code_ok (r:=some B) hnt hy ih hgf (hdr _ _ fl nt ih hgf) rec.assign (k' % 256 + 1) (fun j z hj=>hsub j z (by rw [List.getElem?_append_left (List.getElem?_eq_some_iff.1 hj).1]; exact hj)) t1 h n .normal t2 h2 n2 (by rw [hX]; exact brIs_nx.2 ⟨rfl,rfl,rfl,rfl⟩) hf
 obtain ⟨_,kB⟩:=code_ok (r:=some B) hnt hy ih hgf (hdr _ _ fl nt ih hgf) rec.body _ hsB t2 _ n2 ex t3 h3 n' hbr hn2
 have frA:Fresh n n2 m:=fr.left (Nat.le_trans abS.le abB.le)
 refine kA { tmps:=_,defers:=[] } m w F1 s frA w.heap.size ⟨Nat.le_refl _,fun _ h=>(by cases h),fun l hl=>(by cases hl; exact ⟨rec,hrec⟩),.nil⟩ _ fun a1 w1 m1 mk1 F2 T1=>?_
 have hle1:Le m m1:=T1.le frA
 have hmb1:m1 b=some (B,O,Z):=hle1 _ _ hmb
 obtain ⟨rec1,hrec1,hst2,g1,g2,g3,hsz1,hspec1⟩:=T1.sim.recOf hb2 hk' hmb1 hl
 have hready:rec1.state=.ready:=by
  generalize rec1.state=a at hst2 ⊢; generalize rec1.pending=pe at hst2; cases hst2; rfl
 refine ⟨_,run_beginRound hrec1 hready,?_⟩
 have T2:Tr P ρ g fl h2 n2 m1 w1 (hst h2 (.bk (cst cs2 (.fn k' (.b true)) 0) MAPZ) b) n2 m1 (w1.putObj B (.loop { rec1 with state:=.busy })):=
  Tr.setMap T1.sim hb2 (Nat.le_trans hgf hflb) hflb hmb1 hrec1 (hspec1 (.b true) { rec1 with state:=.busy } (cg_cst_in _ _ 0 (by decide)) (.busy _) rfl rfl rfl rfl) (fun _ _=>⟨_,rfl⟩)
 have frB:Fresh n2 n' m1:=fr.right T1.ext abA.le
 have mk2:=mk1.next T2
 refine kB a1 m1 _ F2 T2.sim frB w.heap.size mk2 _ fun a3 w3 m3 mk3 F3 T3=>?_
 have hle3:Le m1 m3:=T3.le frB
 have hmb3:m3 b=some (B,O,Z):=hle3 _ _ hmb1
 obtain ⟨rec3,hrec3,hst3,r1,r2,r3,hsz3,hspec3⟩:=T3.sim.recOf hb3 hk3 hmb3 hl
 have T4:Tr P ρ g fl h3 n' m3 w3 (hst h3 (.bk (cst cs3 (.fn k' stE) 0) MAPZ) b) n' m3 (w3.putObj B (.loop { rec3 with state:=if jump.isNone then .ready else .done,pending:=jump })):=
  Tr.setMap T3.sim hb3 (Nat.le_trans hgf hflb) hflb hmb3 hrec3 (hspec3 stE { rec3 with state:=if jump.isNone then .ready else .done,pending:=jump } (cg_cst_in _ _ 0 (by decide)) hLSt rfl rfl rfl rfl) (fun _ _=>⟨_,rfl⟩)
 have TT:=((T1.trans T2 abA.le (Nat.le_refl _)).trans T3 (Nat.le_trans abA.le abS.le) abB.le).trans T4 (Nat.le_trans (Nat.le_trans abA.le abS.le) abB.le) (Nat.le_refl _)
 have hend:=run_endRound (P:=P) jump hrec3
 have hR:∃ u m',Ending.returned (.bool jump.isNone)=.returned u∧Tr P ρ g fl h n m w (hst h3 (.bk (cst cs3 (.fn k' stE) 0) MAPZ) b) n' m' (w3.putObj B (.loop { rec3 with state:=if jump.isNone then .ready else .done,pending:=jump }))∧den ρ m' (.b ans) u:=
  ⟨_,m3,rfl,TT,by rw [hans]; rfl⟩
 rcases hjump with ⟨rfl,rfl⟩ | ⟨rfl,rfl⟩ | ⟨id,rfl,rfl⟩
 ·exact ⟨_,_,hend,hR⟩
 ·exact ⟨_,_,hend,hR⟩
 ·exact ⟨_,_,hend,hR⟩
theorem compR_f {key np:Nat} {b:RC} {rs:List RS} (hc:compR P key=some (.f np b rs)):False:=by
 unfold compR at hc
 simp only [Option.bind_eq_bind,Option.bind_eq_some_iff] at hc
 obtain ⟨⟨f0,nt,ps,x,y⟩,_,h2⟩:=hc
 simp only at h2
 split at h2
 ·cases h2
 ·cases h2
theorem any_ok (hy:YsOk ρ ys) (hdr:∀ (r:Option Nat) (cl:Cl') (fl nt:Nat),ClOk P ρ g cl→g≤fl→DrOk r P ρ g fl nt ys cl) {cl:Cl'} (ih:ClOk P ρ g cl) {f:FuncId} {r:RF} (hcf:compF P f=some r) {c:RV} {fl:Nat} {h:HT} {n:Nat} {v:RV} {h':HT} {n':Nat} (hgf:g≤fl) (hf:fl≤n)
  (e2:callF ys cl f r c fl h n=.ok v h' n'):Ab fl h n h' n' ∧
  (f < BND→known P f=true∧∀ (m:Mp) (w:World) (vs:List Value),Sim P ρ m g h w→Glob P ρ m→denC ρ m c vs→Fresh n n' m→Calls P f vs.toArray w (fun e w'=>∃ u m',e=.returned u∧Tr P ρ g fl h n m w h' n' m' w'∧den ρ m' v u)) ∧
  (BND≤f→∀ (m:Mp) (w:World) (vs:List Value),Sim P ρ m g h w→Glob P ρ m→denC ρ m c vs→Fresh n n' m→∃ B args,vs=.map (some B)::args∧RdIn P B args w (fun e w'=>∃ u m',e=.returned u∧Tr P ρ g fl h n m w h' n' m' w'∧den ρ m' v u)):=by
 rcases Nat.lt_or_ge f BND with q | q
 ·obtain ⟨h1,h2,h3⟩:=one_ok hy hdr ih q hcf hgf hf e2
  exact ⟨h1,fun _=>⟨h2,h3⟩,fun q'=>absurd q (Nat.not_lt_of_le q')⟩
 ·have hR:compR P (f - BND)=some r:=by rw [← hcf]; exact (if_neg (Nat.not_lt_of_le q)).symm
  cases r with
  | f np b rs=>exact (compR_f hR).elim
  | r k2 nv sv psl A Bd=>
   obtain ⟨h1,h2⟩:=round_ok hy hdr ih hR hgf hf e2
   exact ⟨h1,fun q'=>absurd q' (Nat.not_lt_of_le q),fun _=>h2⟩
end Go.Rn
namespace Go.Rn
variable {ρ:Nat→Int} {m m':Mp} {P:Program}
variable {g fl n n' nt lim:Nat} {h h':HT} {t:FT} {a:Act} {w:World} {v:RV} {ys:Ys} {cl:Cl'}
theorem eqI_ok {a b:Int} (h:eqI a b=true):a=b:=by
 cases a with
 | ofNat x=>cases b with
  | ofNat y=>exact congrArg Int.ofNat (beq_ok h)
  | negSucc y=>cases h
 | negSucc x=>cases b with
  | ofNat y=>cases h
  | negSucc y=>exact congrArg Int.negSucc (beq_ok h)
theorem eqV_ok:∀ (a b:RV),eqV a b=true→a=b:=by
 intro a
 induction a with
 | un=>intro b h; cases b <;> first | (cases h; done) | rfl
 | ud=>intro b h; cases h
 | b x=>intro b h; cases b <;> first | (cases h; done) | (rename_i y; rw [eqB_ok.1 (show eqB x y=true from h)])
 | i k x=>
  intro b h
  cases b <;> first | (cases h; done) | skip
  rename_i j y
  obtain ⟨h1,h2⟩:=bf_ok (d:=false) (show bf (eqK k j) (eqI x y) false=true from h) (by simp)
  rw [eqK_ok h1,eqI_ok h2]
 | y k x=>
  intro b h
  cases b <;> first | (cases h; done) | skip
  rename_i j y
  obtain ⟨h1,h2⟩:=bf_ok (d:=false) (show bf (eqK k j) (eqS x y) false=true from h) (by simp)
  rw [eqK_ok h1,eqS_ok _ _ h2]
 | s l=>
  intro b h
  cases b <;> first | (cases h; done) | skip
  rename_i r
  have h1:eqL l r=true:=h
  rw [eqL_ok] at h1
  rw [eq_of_beq h1]
 | np=>intro b h; cases b <;> first | (cases h; done) | rfl
 | p x o=>
  intro b h
  cases b <;> first | (cases h; done) | skip
  rename_i y q
  obtain ⟨h1,h2⟩:=bf_ok (d:=false) (show bf (Nat.beq x y) (Nat.beq o q) false=true from h) (by simp)
  rw [beq_ok h1,beq_ok h2]
 | ns=>intro b h; cases b <;> first | (cases h; done) | rfl
 | sl x o l c=>
  intro b h
  cases b <;> first | (cases h; done) | skip
  rename_i y q k e
  obtain ⟨h1,h2⟩:=bf_ok (d:=false) (show bf (Nat.beq x y) (bf (Nat.beq o q) (bf (Nat.beq l k) (Nat.beq c e) false) false) false=true from h) (by simp)
  obtain ⟨h3,h4⟩:=bf_ok h2 (by simp)
  obtain ⟨h5,h6⟩:=bf_ok h4 (by simp)
  rw [beq_ok h1,beq_ok h3,beq_ok h5,beq_ok h6]
 | su x o l c=>
  intro b h
  cases b <;> first | (cases h; done) | skip
  rename_i y q k e
  obtain ⟨h1,h2⟩:=bf_ok (d:=false) (show bf (Nat.beq x y) (bf (Nat.beq o q) (bf (Nat.beq l k) (Nat.beq c e) false) false) false=true from h) (by simp)
  obtain ⟨h3,h4⟩:=bf_ok h2 (by simp)
  obtain ⟨h5,h6⟩:=bf_ok h4 (by simp)
  rw [beq_ok h1,beq_ok h3,beq_ok h5,beq_ok h6]
 | sx x e=>
  intro b h
  cases b <;> first | (cases h; done) | skip
  rename_i y f
  obtain ⟨h1,h2⟩:=bf_ok (d:=false) (show bf (Nat.beq x y) (Nat.beq e f) false=true from h) (by simp)
  rw [beq_ok h1,beq_ok h2]
 | nf=>intro b h; cases b <;> first | (cases h; done) | rfl
 | fn f c ih=>
  intro b h
  cases b <;> first | (cases h; done) | skip
  rename_i k d
  obtain ⟨h1,h2⟩:=bf_ok (d:=false) (show bf (Nat.beq f k) (eqV c d) false=true from h) (by simp)
  rw [beq_ok h1,ih _ h2]
 | nil=>intro b h; cases b <;> first | (cases h; done) | rfl
 | cons x r ih1 ih2=>
  intro b h
  cases b <;> first | (cases h; done) | skip
  rename_i y q
  obtain ⟨h1,h2⟩:=bf_ok (d:=false) (show bf (eqV x y) (eqV r q) false=true from h) (by simp)
  rw [ih1 _ h1,ih2 _ h2]
 | agg c ih=>
  intro b h
  cases b <;> first | (cases h; done) | skip
  rename_i d
  rw [ih _ (show eqV c d=true from h)]
 | tup c ih=>
  intro b h
  cases b <;> first | (cases h; done) | skip
  rename_i d
  rw [ih _ (show eqV c d=true from h)]
 | mp x=>
  intro b h
  cases b <;> first | (cases h; done) | skip
  rename_i y
  rw [beq_ok (show Nat.beq x y=true from h)]
theorem ckAll_ok {h:HT} {j:Nat}:∀ {l:List CK},ckAll l h j=true→∀ c ∈ l,ckIn h j c=true
 | [],_,c,hc=>by cases hc
 | x::l,e,c,hc=>by
  obtain ⟨h1,h2⟩:=bf_ok (d:=false) (show bf (ckIn h j x) (ckAll l h j) false=true from e) (by simp)
  rcases List.mem_cons.1 hc with rfl | hc
  ·exact h1
  ·exact ckAll_ok h2 c hc
theorem ckOver_ok {l:List CK}:∀ {hs:List HT},ckOver hs l=true→∀ pre h suf,hs=pre ++ h::suf→ckAll l h suf.length=true
 | [],_,pre,h,suf,e=>by cases pre <;> cases e
 | x::hs,e,pre,h,suf,e2=>by
  obtain ⟨h1,h2⟩:=bf_ok (d:=false) (show bf (ckAll l x hs.length) (ckOver hs l) false=true from e) (by simp)
  cases pre with
  | nil=>cases e2; exact h1
  | cons p pre=>cases e2; exact ckOver_ok h2 pre h suf rfl
def effs:List RQ→Nat→Nat
 | _,0=>0
 | [],_ + 1=>0
 | q::l,i + 1=>(if isEf q then 1 else 0) + effs l i
structure DRun (ys:Ys) (cl:Cl') (fl n0:Nat) (l:List RQ) (T:Nat→FT) (H:Nat→HT) (N:Nat→Nat) (R:Nat→RV) (csF:List CK):Prop where
 put:∀ i d g k o,l[i]?=some (.q d g k o)→T (i + 1)=put (T i) d (R i)
 turn:∀ i d g k o,l[i]?=some (.q d g k o) →
  (want (T i) g=.n∧R i=.ud∧H (i + 1)=H i∧N (i + 1)=N i) ∨
  (want (T i) g=.y∧step o ys cl fl (limOf k n0) (T i) (H i) (N i)=.ok (R i) (H (i + 1)) (N (i + 1)) ∧
   ∀ p q,k=.ck p q→∃ gg s x b off,o=.ld gg s x∧ev (T i) x=.p b off∧b < n0∧CK.k p q b off gg s (R i) ∈ csF)
theorem DRun.shift {n0:Nat} {q:RQ} {l:List RQ} {T:Nat→FT} {H:Nat→HT} {N:Nat→Nat} {R:Nat→RV} {csF:List CK} (t:FT) (h:HT) (n:Nat) (v:RV)
  (D:DRun ys cl fl n0 l T H N R csF)
  (h0:∀ d g k o,q=.q d g k o→T 0=Go.Rn.put t d v ∧
   ((want t g=.n∧v=.ud∧H 0=h∧N 0=n) ∨ (want t g=.y∧step o ys cl fl (limOf k n0) t h n=.ok v (H 0) (N 0)∧∀ p q,k=.ck p q→∃ gg s x b off,o=.ld gg s x∧ev t x=.p b off∧b < n0∧CK.k p q b off gg s v ∈ csF))) :
  DRun ys cl fl n0 (q::l) (fun i=>Nat.casesOn i t T) (fun i=>Nat.casesOn i h H) (fun i=>Nat.casesOn i n N) (fun i=>Nat.casesOn i v R) csF:=by
 refine ⟨fun i d g k o e=>?_,fun i d g k o e=>?_⟩
 ·cases i with
  | zero=>exact (h0 d g k o (by simpa using e)).1
  | succ i=>exact D.put i d g k o (by simpa using e)
 ·cases i with
  | zero=>exact (h0 d g k o (by simpa using e)).2
  | succ i=>exact D.turn i d g k o (by simpa using e)
theorem dops_run {n0:Nat}:∀ (l:List RQ) (t:FT) (h:HT) (n:Nat) (cs:List CK) (hs:List HT),(∃ k,dops ys cl fl n0 l t h n cs hs=.bad k) ∨
  ∃ t' h' n',dops ys cl fl n0 l t h n cs hs=.nx t' h' n'∧n'≤8388608∧∃ (T:Nat→FT) (H:Nat→HT) (N:Nat→Nat) (R:Nat→RV) (csF:List CK) (hsF:List HT),
   T 0=t∧H 0=h∧N 0=n∧T l.length=t'∧H l.length=h'∧N l.length=n'∧DRun ys cl fl n0 l T H N R csF∧ckOver hsF csF=true∧(∃ pre,hsF=pre ++ hs)∧(∀ c ∈ cs,c ∈ csF) ∧
   ∀ i q,l[i]?=some q→isEf q=true→∃ pre suf,hsF=pre ++ H (i + 1)::suf∧suf.length=hs.length + effs l i
 | [],t,h,n,cs,hs=>by
  have e:dops ys cl fl n0 [] t h n cs hs=bf (ckOver hs cs) (bf (Nat.ble n 8388608) (.nx t h n) (.bad [93])) (.bad [94]):=rfl
  cases hb:ckOver hs cs with
  | false=>rw [hb] at e; exact .inl ⟨_,e⟩
  | true=>
   rw [hb] at e
   cases hn:Nat.ble n 8388608 with
   | false=>rw [hn] at e; exact .inl ⟨_,e⟩
   | true=>
   rw [hn] at e
   exact .inr ⟨t,h,n,e,ble_ok hn,fun _=>t,fun _=>h,fun _=>n,fun _=>.un,cs,hs,rfl,rfl,rfl,rfl,rfl,rfl,⟨fun i d g k o e=>by simp at e,fun i d g k o e=>by simp at e⟩,hb,⟨[],rfl⟩,fun _ h=>h,fun i q e=>by simp at e⟩
 | .q d gq k o::l,t,h,n,cs,hs=>by
  have e:dops ys cl fl n0 (.q d gq k o::l) t h n cs hs=dW ys cl fl n0 d k o (dops ys cl fl n0 l) t h n cs hs (want t gq):=rfl
  rw [e]
  have next:∀ (v:RV) (h1:HT) (n1:Nat) (cs1:List CK) (hs1:List HT),(∀ c ∈ cs,c ∈ cs1)→((isEf (.q d gq k o)=true∧hs1=h1::hs) ∨ (isEf (.q d gq k o)=false∧hs1=hs)) →
    ((want t gq=.n∧v=.ud∧h1=h∧n1=n) ∨ (want t gq=.y∧step o ys cl fl (limOf k n0) t h n=.ok v h1 n1∧∀ p q,k=.ck p q→∃ gg s x b off,o=.ld gg s x∧ev t x=.p b off∧b < n0∧CK.k p q b off gg s v ∈ cs1)) →
    ∀ r,r=dops ys cl fl n0 l (put t d v) h1 n1 cs1 hs1→(∃ k,r=.bad k) ∨
    ∃ t' h' n',r=.nx t' h' n'∧n'≤8388608∧∃ (T:Nat→FT) (H:Nat→HT) (N:Nat→Nat) (R:Nat→RV) (csF:List CK) (hsF:List HT),
     T 0=t∧H 0=h∧N 0=n∧T (l.length + 1)=t'∧H (l.length + 1)=h'∧N (l.length + 1)=n'∧DRun ys cl fl n0 (.q d gq k o::l) T H N R csF∧ckOver hsF csF=true∧(∃ pre,hsF=pre ++ hs)∧(∀ c ∈ cs,c ∈ csF) ∧
     ∀ i q,(RQ.q d gq k o::l)[i]?=some q→isEf q=true→∃ pre suf,hsF=pre ++ H (i + 1)::suf∧suf.length=hs.length + effs (.q d gq k o::l) i:=by
   intro v h1 n1 cs1 hs1 hcs hhs hst r hr
   rcases dops_run l (put t d v) h1 n1 cs1 hs1 with ⟨k,hb⟩ | ⟨t',h',n',hx,hle,T,H,N,R,csF,hsF,q1,q2,q3,q4,q5,q6,q7,q8,⟨pre,q9⟩,q10,q11⟩
   ·exact .inl ⟨k,hr.trans hb⟩
   ·refine .inr ⟨t',h',n',hr.trans hx,hle,_,_,_,_,csF,hsF,rfl,rfl,rfl,q4,q5,q6,q7.shift (q:=.q d gq k o) t h n v (fun d' g' k' o' e=>?_),q8,?_,fun c hc=>q10 c (hcs c hc),fun i q hi he=>?_⟩
    ·cases e
     refine ⟨q1,?_⟩
     rcases hst with ⟨s1,s2,s3,s4⟩ | ⟨s1,s2,s3⟩
     ·exact .inl ⟨s1,s2,q2.trans s3,q3.trans s4⟩
     ·refine .inr ⟨s1,by rw [q2,q3]; exact s2,fun p q hk=>?_⟩
      obtain ⟨gg,s,x,b,off,a1,a2,a3,a4⟩:=s3 p q hk
      exact ⟨gg,s,x,b,off,a1,a2,a3,q10 _ a4⟩
    ·rcases hhs with ⟨_,rfl⟩ | ⟨_,rfl⟩
     ·exact ⟨pre ++ [h1],by rw [q9]; simp⟩
     ·exact ⟨pre,q9⟩
    ·cases i with
     | zero=>
      have hq:RQ.q d gq k o=q:=by simpa using hi
      subst hq
      rcases hhs with ⟨_,rfl⟩ | ⟨hh,_⟩
      ·exact ⟨pre,hs,by show hsF=pre ++ H 0::hs; rw [q9,q2],by simp [effs]⟩
      ·rw [hh] at he; cases he
     | succ i=>
      obtain ⟨p2,suf,a1,a2⟩:=q11 i q (by simpa using hi) he
      refine ⟨p2,suf,a1,?_⟩
      rw [a2]
      rcases hhs with ⟨hh,rfl⟩ | ⟨hh,rfl⟩
      ·simp [effs,hh]; omega
      ·simp [effs,hh]
  cases hw:want t gq with
  | u=>exact .inl ⟨[99],rfl⟩
  | n=>
   have e2:∀ r,r=dW ys cl fl n0 d k o (dops ys cl fl n0 l) t h n cs hs .n→r=(@K3.rec (fun _=>BR) (dops ys cl fl n0 l (put t d .ud) h n cs hs) (dops ys cl fl n0 l (put t d .ud) h n cs hs) (fun _ _=>dops ys cl fl n0 l (put t d .ud) h n cs hs) (dops ys cl fl n0 l (put t d .ud) h n cs (h::hs)) k):=by
    rintro r rfl
    show fT (put t d .ud) (fun t=>@K3.rec (fun _=>BR) (dops ys cl fl n0 l t h n cs hs) (dops ys cl fl n0 l t h n cs hs) (fun _ _=>dops ys cl fl n0 l t h n cs hs) (dops ys cl fl n0 l t h n cs (h::hs)) k)=_
    rw [fT_eq]
   cases k with
   | nm=>exact next .ud h n cs hs (fun _ h=>h) (.inr ⟨rfl,rfl⟩) (.inl ⟨hw,rfl,rfl,rfl⟩) _ (e2 _ rfl)
   | lm=>exact next .ud h n cs hs (fun _ h=>h) (.inr ⟨rfl,rfl⟩) (.inl ⟨hw,rfl,rfl,rfl⟩) _ (e2 _ rfl)
   | ck p q=>exact next .ud h n cs hs (fun _ h=>h) (.inr ⟨rfl,rfl⟩) (.inl ⟨hw,rfl,rfl,rfl⟩) _ (e2 _ rfl)
   | ef=>exact next .ud h n cs (h::hs) (fun _ h=>h) (.inl ⟨rfl,rfl⟩) (.inl ⟨hw,rfl,rfl,rfl⟩) _ (e2 _ rfl)
  | y=>
   have e2:∀ r,r=dW ys cl fl n0 d k o (dops ys cl fl n0 l) t h n cs hs .y→r=dOk d k o n0 t (step o ys cl fl (limOf k n0) t h n) cs hs (dops ys cl fl n0 l):=fun r hr=>hr
   generalize hr:dW ys cl fl n0 d k o (dops ys cl fl n0 l) t h n cs hs .y=r
   have e3:=e2 r hr.symm
   cases hs1:step o ys cl fl (limOf k n0) t h n with
   | bad w=>rw [hs1] at e3; exact .inl ⟨w,e3⟩
   | ok v h1 n1=>
    rw [hs1] at e3
    have e4:r=(@K3.rec (fun _=>BR) (dops ys cl fl n0 l (put t d v) h1 n1 cs hs) (dops ys cl fl n0 l (put t d v) h1 n1 cs hs) (fun p q=>gO (.bad [96]) (ckOf p q o t n0 v cs) fun cs=>dops ys cl fl n0 l (put t d v) h1 n1 cs hs) (dops ys cl fl n0 l (put t d v) h1 n1 cs (h1::hs)) k):=by
     rw [e3]
     show fT (put t d v) (fun t'=>@K3.rec (fun _=>BR) (dops ys cl fl n0 l t' h1 n1 cs hs) (dops ys cl fl n0 l t' h1 n1 cs hs) (fun p q=>gO (.bad [96]) (ckOf p q o t n0 v cs) fun cs=>dops ys cl fl n0 l t' h1 n1 cs hs) (dops ys cl fl n0 l t' h1 n1 cs (h1::hs)) k)=_
     rw [fT_eq]
    cases k with
    | nm=>exact next v h1 n1 cs hs (fun _ h=>h) (.inr ⟨rfl,rfl⟩) (.inr ⟨hw,hs1,fun p q hk=>by cases hk⟩) _ e4
    | lm=>exact next v h1 n1 cs hs (fun _ h=>h) (.inr ⟨rfl,rfl⟩) (.inr ⟨hw,hs1,fun p q hk=>by cases hk⟩) _ e4
    | ef=>exact next v h1 n1 cs (h1::hs) (fun _ h=>h) (.inl ⟨rfl,rfl⟩) (.inr ⟨hw,hs1,fun p q hk=>by cases hk⟩) _ e4
    | ck p q=>
     have e5:r=gO (.bad [96]) (ckOf p q o t n0 v cs) (fun cs=>dops ys cl fl n0 l (put t d v) h1 n1 cs hs):=e4
     cases hc:ckOf p q o t n0 v cs with
     | none=>rw [hc] at e5; exact .inl ⟨[96],e5⟩
     | some cs1=>
      rw [hc] at e5
      have key:∃ gg s x b off,o=.ld gg s x∧ev t x=.p b off∧b < n0∧cs1=CK.k p q b off gg s v::cs:=by
       unfold ckOf at hc
       split at hc
       ·rename_i gg s x
        obtain ⟨b,off,hb,e6⟩:=gP_ok hc (by simp)
        obtain ⟨hl,e7⟩:=bf_ok e6 (by simp)
        cases e7
        exact ⟨gg,s,x,b,off,rfl,hb,ble_ok hl,rfl⟩
       ·cases hc
      obtain ⟨gg,s,x,b,off,a1,a2,a3,a4⟩:=key
      refine next v h1 n1 cs1 hs (fun c hc=>by rw [a4]; exact List.mem_cons_of_mem _ hc) (.inr ⟨rfl,rfl⟩) (.inr ⟨hw,hs1,fun p' q' hk=>?_⟩) _ e5
      cases hk
      exact ⟨gg,s,x,b,off,a1,a2,a3,by rw [a4]; exact List.mem_cons_self⟩
end Go.Rn
