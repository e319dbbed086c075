/-
  One text of a symbolic evaluator over the model, shown sound once for every program: no statement is claimed here.
-/
import Derived.Test.YthfaoceleaaepaaGreatDoorRqH
namespace Go.Rn
attribute [local irreducible] HT10 CT9 RelC9 RelH10
section
variable {ys:Ys} {fl:Nat} {h3:H3} {h:HT} {n:Nat}
theorem fT_id {α β:Type} (t:T β) (k:T β→α):fT t k=k t:=by cases t <;> rfl
theorem un_c {x r:RV}:RV.cons x r ≠ .un:=by simp
theorem lay3_ok:∀ {c:RV} {c3:C3} {c1:CT} {i:Nat} {k:C3→Nat→A},CRel c3 c1→Good (lay3 c c3 i k)→∃ m,chLen c=some m∧∃ c3',CRel c3' (lay c c1 i)∧Good (k c3' (i + m)):=by
 intro c
 induction c with
 | nil=>exact fun r e=>⟨0,rfl,_,r,e⟩
 | cons x q _ ih=>
  intro c3 c1 i k r e
  obtain ⟨h1,g,h2,h3⟩:=cupd_ok r (show Good (cupd c3 i (fun _ c=>c x) fun t=>lay3 q t (i + 1) k) from e)
  obtain ⟨c3',r',h4⟩:=h3 x h2
  obtain ⟨m,e1,c3'',r'',h5⟩:=ih r' h4
  refine ⟨m + 1,?_,c3'',?_,?_⟩
  ·show gO none (chLen q) (fun n=>some (Nat.succ n))=_
   rw [e1]; rfl
  ·show CRel c3'' (fT (cst c1 x i) fun t=>lay q t (i + 1))
   rw [fT_id]; exact r''
  ·rw [show i + (m + 1)=i + 1 + m by omega]; exact h5
 | _=>intros; rename_i e; exact Good.no e
theorem over3_ok:∀ {c:RV} {c3:C3} {c1:CT} {i:Nat} {k:C3→A},CRel c3 c1→Good (over3 c c3 i k)→∃ c1',over c c1 i=some c1'∧∃ c3',CRel c3' c1'∧Good (k c3'):=by
 intro c
 induction c with
 | nil=>exact fun r e=>⟨_,rfl,_,r,e⟩
 | cons x q _ ih=>
  intro c3 c1 i k r e
  obtain ⟨h1,g,h2,h3⟩:=cupd_ok r (show Good (cupd c3 i (fun y c=>cU y (c x)) fun t=>over3 q t (i + 1) k) from e)
  obtain ⟨h0,h2⟩:=cU_ok h2
  obtain ⟨c3',r',h4⟩:=h3 x h2
  obtain ⟨c1',e1,c3'',r'',h5⟩:=ih r' h4
  refine ⟨c1',?_,c3'',r'',h5⟩
  show nU none (cg c1 i) (fun _=>fT (cst c1 x i) fun t=>over q t (i + 1))=_
  rw [nU_of h0,fT_id]; exact e1
 | _=>intros; rename_i e; exact Good.no e
theorem rd3_ok:∀ {m:Nat} {c3:C3} {c1:CT} {o:Nat} {k:RV→A},CRel c3 c1→Good (rd3 m c3 o k)→rd c1 m o ≠ .un∧Good (k (rd c1 m o))
 | 0,_,_,_,_,_,e=>⟨by show RV.nil ≠ .un; simp,e⟩
 | m + 1,c3,c1,o,k,r,e=>by
  obtain ⟨h1,h2⟩:=cU_ok (cget_ok r (show Good (cget c3 o fun v=>cU v (rd3 m c3 (o + 1) fun r=>k (.cons v r))) from e))
  obtain ⟨h3,h4⟩:=rd3_ok r h2
  show kons (cg c1 o) (rd c1 m (o + 1)) ≠ .un∧Good (k (kons (cg c1 o) (rd c1 m (o + 1))))
  rw [kons_of h1 h3]
  exact ⟨un_c,h4⟩
theorem rdA_ok {g:Bool} {m:Nat} {c3:C3} {c1:CT} {o:Nat} {k:RV→A} (r:CRel c3 c1) (e:Good (rdA g m c3 o k)):(∀ h n,ldC g m c1 o h n=SR.ok (rdV g m c1 o) h n)∧rdV g m c1 o ≠ .un∧Good (k (rdV g m c1 o)):=by
 rcases ifA_ok e with ⟨rfl,h1⟩ | ⟨rfl,h1⟩
 ·obtain ⟨h2,h3⟩:=rd3_ok r h1
  have e:rdV true m c1 o=.agg (rd c1 m o):=nU_of h2
  rw [e]
  exact ⟨fun h n=>nU_of h2,by simp,h3⟩
 ·obtain ⟨h2,h3⟩:=cU_ok (cget_ok r h1)
  exact ⟨fun h n=>okV_of h2,h2,h3⟩
theorem newB_ok {c3:C3} {c:CT} {z:Nat} {v:RV} {k:KV} (r:HRel h3 h) (rc:CRel c3 c) (e:Good (newB h3 n c3 z v k)):newBlk h n c z v=.ok v (hst h (.bk c z) n) (n + 1)∧∃ h3',HRel h3' (hst h (.bk c z) n)∧Good (k v h3' (n + 1)):=by
 rcases ifA_ok e with ⟨_,e⟩ | ⟨hz,e⟩
 ·exact Good.no e
 have hmz:z ≠ MAPZ:=fun q=>by rw [q] at hz; exact absurd hz (by decide)
 obtain ⟨_,b3,g,_,h1,h2⟩:=hupd_ok r e
 obtain ⟨h3',r',h4⟩:=h2 (bkB c3 z) (.bk c z) (.inl ⟨hmz,c3,rfl,rc⟩) h1
 refine ⟨?_,h3',r',frc_ok (k:=fun m=>k v h3' m) h4⟩
 show bf (Nat.beq z MAPZ) _ (fT c (fun cs=>fT (hst h (.bk cs z) n) fun h=>SR.ok v h (Nat.succ n)))=_
 rw [hz,fT_id,fT_id]
 rfl
theorem newC_ok {c v:RV} {k:KV} (r:HRel h3 h) (e:Good (newC h3 n c v k)):∃ h',newCh h n c v=.ok v h' (n + 1)∧∃ h3',HRel h3' h'∧Good (k v h3' (n + 1)):=by
 obtain ⟨m,e1,c3,rc,h1⟩:=lay3_ok ce3_ok e
 have h2:=frc_ok (k:=fun z=>newB h3 n c3 z v k) h1
 rw [Nat.zero_add] at h2
 obtain ⟨e2,h3',r',h4⟩:=newB_ok r rc h2
 refine ⟨_,?_,h3',r',h4⟩
 show gO (SR.bad [104]) (chLen c) (fun z=>newBlk h n (lay c ce 0) z v)=_
 rw [e1]
 exact e2
theorem killB_ok {b:Nat} {k:H3→A} (r:HRel h3 h) (e:Good (killB h3 b k)):∃ h3',HRel h3' (hst h .no b)∧Good (k h3'):=by
 obtain ⟨_,b3,g,_,h1,h2⟩:=hupd_ok r e
 exact h2 noB .no rfl h1
theorem stB_ok {b o:Nat} {v:RV} {k:H3→A} (r:HRel h3 h) (e:Good (stB fl h3 b o v k)):∃ h',(∀ n,stBlk fl h b o v n=SR.ok .ud h' n)∧∃ h3',HRel h3' h'∧Good (k h3'):=by
 obtain ⟨h0,e⟩:=ifA_y e
 obtain ⟨_,b3,g,rb,h1,h2⟩:=hupd_ok r e
 obtain ⟨c,z,c3,e1,rc,h3,hmz⟩:=bkNo rb h1
 obtain ⟨c',e2,c3',rc',h4⟩:=over3_ok rc h3
 obtain ⟨h3',r',h5⟩:=h2 (bkB c3' z) (.bk c' z) (.inl ⟨hmz,c3',rfl,rc'⟩) h4
 refine ⟨_,fun n=>?_,h3',r',h5⟩
 show bf (Nat.ble fl b) (gK (SR.bad [102]) (hg h b) fun cs z=>gO (SR.bad [103]) (over v cs o) fun cs'=>fT (hst h (.bk cs' z) b) fun h=>SR.ok .ud h n) (SR.bad [101])=_
 rw [h0,e1,bf_t,gK_bk hmz]
 show gO (SR.bad [103]) (over v c o) (fun cs'=>fT (hst h (.bk cs' z) b) fun h=>SR.ok .ud h n)=_
 rw [e2]
 show fT (hst h (.bk c' z) b) (fun h=>SR.ok .ud h n)=_
 rw [fT_id]
theorem st1_ok {b o:Nat} {v:RV} {k:H3→A} (r:HRel h3 h) (e:Good (st1 fl h3 b o v k)):∃ h',(∀ n,stBlk fl h b o (.cons v .nil) n=SR.ok .ud h' n)∧∃ h3',HRel h3' h'∧Good (k h3'):=by
 obtain ⟨h0,e⟩:=ifA_y e
 obtain ⟨_,b3,g,rb,h1,h2⟩:=hupd_ok r e
 obtain ⟨c,z,c3,e1,rc,h3,hmz⟩:=bkNo rb h1
 obtain ⟨_,g2,h6,h7⟩:=cupd_ok rc h3
 obtain ⟨h8,h9⟩:=cU_ok h6
 obtain ⟨c3',rc',h4⟩:=h7 v h9
 obtain ⟨h3',r',h5⟩:=h2 (bkB c3' z) (.bk (cst c v o) z) (.inl ⟨hmz,c3',rfl,rc'⟩) h4
 refine ⟨_,fun n=>?_,h3',r',h5⟩
 show bf (Nat.ble fl b) (gK (SR.bad [102]) (hg h b) fun cs z=>gO (SR.bad [103]) (over (.cons v .nil) cs o) fun cs'=>fT (hst h (.bk cs' z) b) fun h=>SR.ok .ud h n) (SR.bad [101])=_
 rw [h0,e1,bf_t,gK_bk hmz]
 show gO (SR.bad [103]) (nU none (cg c o) fun _=>fT (cst c v o) fun t=>some t) (fun cs'=>fT (hst h (.bk cs' z) b) fun h=>SR.ok .ud h n)=_
 rw [nU_of h8,fT_id]
 show fT (hst h (.bk (cst c v o) z) b) (fun h=>SR.ok .ud h n)=_
 rw [fT_id]
theorem row3_ok {es b o m:Nat} {k:RV→A} (r:HRel h3 h) (e:Good (row3 h3 es b o m k)):rowCells h es b o m ≠ .un∧Good (k (rowCells h es b o m)):=by
 obtain ⟨c,z,c3,e1,rc,_,h1,hmz⟩:=hgetB r e
 obtain ⟨h2,h3⟩:=rd3_ok rc (frc_ok (k:=fun q=>rd3 q c3 o k) h1)
 have e2:rowCells h es b o m=rd c (Nat.mul m es) o:=by
  show bf (Nat.beq m 0) .nil (gK .un (hg h b) fun c _=>rd c (Nat.mul m es) o)=_
  rw [e1,gK_bk hmz]
  cases hm:Nat.beq m 0 with
  | true=>
   have:m=0:=Nat.eq_of_beq_eq_true hm
   subst this
   show RV.nil=rd c (0 * es) o
   rw [Nat.zero_mul]; rfl
  | false=>rfl
 rw [e2]
 exact ⟨h2,h3⟩
theorem slC_ok {es m:Nat} {v:RV} {k:RV→A} (r:HRel h3 h) (e:Good (slC h3 es v m k)):slCells h es v m ≠ .un∧Good (k (slCells h es v m)):=by
 rcases cL_ok e with ⟨_,h1⟩ | ⟨b,o,l,c,rfl,h1⟩ | ⟨b,o,l,c,rfl,h1⟩ | ⟨_,_,_,h1⟩
 ·exact Good.no h1
 ·obtain ⟨h2,h4⟩:=ifA_y h1
  have e2:slCells h es (.sl b o l c) m=rowCells h es b o m:=by
   show bf (Nat.ble m l) (rowCells h es b o m) .un=_
   rw [h2]; rfl
  rw [e2]
  exact row3_ok r h4
 ·obtain ⟨h2,h4⟩:=ifA_y h1
  have e2:slCells h es (.su b o l c) m=rowCells h es b o m:=by
   show bf (Nat.ble m l) (rowCells h es b o m) .un=_
   rw [h2]; rfl
  rw [e2]
  exact row3_ok r h4
 ·exact Good.no h1
theorem newY_ok {es m:Nat} {y:RV} {k:KV} (r:HRel h3 h) (e:Good (newY h3 n es y m k)):∃ v h',newBlk h n (lay y ce 0) (Nat.mul m es) (.su n 0 m es)=.ok v h' (n + 1)∧∃ h3',HRel h3' h'∧Good (k v h3' (n + 1)):=by
 obtain ⟨_,_,c3,rc,h1⟩:=lay3_ok ce3_ok e
 obtain ⟨e2,h3',r',h4⟩:=newB_ok r rc (frc_ok (k:=fun z=>newB h3 n c3 z (.su n 0 m es) k) h1)
 exact ⟨_,_,e2,h3',r',h4⟩
theorem growC3_ok {es b o l m:Nat} {y:RV} {kill:H3} {kh:HT} {k:KV} (r:HRel h3 h) (rk:HRel kill kh) (e:Good (growC3 h3 n es b o l y m kill k)):∃ v h',growC h n es b o l y m kh=.ok v h' (n + 1)∧∃ h3',HRel h3' h'∧Good (k v h3' (n + 1)):=by
 obtain ⟨h1,h2⟩:=row3_ok r e
 obtain ⟨h4,h5⟩:=cUv_ok h2
 obtain ⟨_,_,c3,rc,h6⟩:=lay3_ok ce3_ok h5
 have h7:=frc_ok (k:=fun q=>frc (Nat.mul q es) fun z=>newB kill n c3 z (.su n 0 q es) k) h6
 obtain ⟨e2,h3',r',h8⟩:=newB_ok rk rc (frc_ok (k:=fun z=>newB kill n c3 z (.su n 0 (Nat.add l m) es) k) h7)
 refine ⟨_,_,?_,h3',r',h8⟩
 show nU (SR.bad [107]) (chApp (rowCells h es b o l) y) (fun r=>newBlk kh n (lay r ce 0) (Nat.mul (Nat.add l m) es) (.su n 0 (Nat.add l m) es))=_
 rw [nU_of h4]
 exact e2
theorem growU3_ok {es b o l m:Nat} {y:RV} {k:KV} (r:HRel h3 h) (e:Good (growU3 h3 n es b o l y m k)):∃ v h',growU h n es b o l y m (hst h .no b)=.ok v h' (n + 1)∧∃ h3',HRel h3' h'∧Good (k v h3' (n + 1)):=by
 obtain ⟨c,z,c3,e1,rc,_,h1,hmz⟩:=hgetB r e
 obtain ⟨kill,rk,h2⟩:=killB_ok r h1
 rcases ifA_ok h2 with ⟨e2,h4⟩ | ⟨e2,h4⟩
 ·obtain ⟨_,_,c3',rc',h5⟩:=lay3_ok rc h4
  have h7:=frc_ok (k:=fun q=>frc (Nat.mul q es) fun z=>newB kill n c3' z (.su n 0 q es) k) h5
  obtain ⟨e3,h3',r',h8⟩:=newB_ok rk rc' (frc_ok (k:=fun z=>newB kill n c3' z (.su n 0 (Nat.add l m) es) k) h7)
  refine ⟨_,_,?_,h3',r',h8⟩
  show gK (SR.bad [105]) (hg h b) (fun c z=>bf (bf (Nat.beq o 0) (Nat.beq z (Nat.mul l es)) false) (newBlk (hst h .no b) n (lay y c z) (Nat.mul (Nat.add l m) es) (.su n 0 (Nat.add l m) es)) (growC h n es b o l y m (hst h .no b)))=_
  rw [e1,gK_bk hmz]
  show bf (bf (Nat.beq o 0) (Nat.beq z (Nat.mul l es)) false) _ _=_
  rw [e2]
  exact e3
 ·obtain ⟨v,h',e3,h3',r',h5⟩:=growC3_ok r rk h4
  refine ⟨v,h',?_,h3',r',h5⟩
  show gK (SR.bad [105]) (hg h b) (fun c z=>bf (bf (Nat.beq o 0) (Nat.beq z (Nat.mul l es)) false) (newBlk (hst h .no b) n (lay y c z) (Nat.mul (Nat.add l m) es) (.su n 0 (Nat.add l m) es)) (growC h n es b o l y m (hst h .no b)))=_
  rw [e1,gK_bk hmz]
  show bf (bf (Nat.beq o 0) (Nat.beq z (Nat.mul l es)) false) _ _=_
  rw [e2]
  exact e3
theorem insY3_ok {es b o l vb vo m i:Nat} {k:KV} (r:HRel h3 h) (e:Good (insY3 es b o l vb vo m i h3 n k)):∃ v h',insY es b o l vb vo m i h n=.ok v h' (n + 1)∧∃ h3',HRel h3' h'∧Good (k v h3' (n + 1)):=by
 obtain ⟨_,h1⟩:=row3_ok r e
 have h2:=frc_ok (k:=fun q=>frc (Nat.sub l i) fun r=>row3 h3 es b q r fun w=>cUv (chApp (rowCells h es vb vo m) w) fun y=>killB h3 b fun kill=>frc (Nat.add r m) fun q=>growC3 h3 n es b o i y q kill k) h1
 have h2:=frc_ok (k:=fun r=>row3 h3 es b (Nat.add o (Nat.mul i es)) r fun w=>cUv (chApp (rowCells h es vb vo m) w) fun y=>killB h3 b fun kill=>frc (Nat.add r m) fun q=>growC3 h3 n es b o i y q kill k) h2
 obtain ⟨_,h2⟩:=row3_ok r h2
 obtain ⟨h4,h5⟩:=cUv_ok h2
 obtain ⟨kill,rk,h6⟩:=killB_ok r h5
 have h6:=frc_ok (k:=fun q=>growC3 h3 n es b o i (chApp (rowCells h es vb vo m) (rowCells h es b (Nat.add o (Nat.mul i es)) (Nat.sub l i))) q kill k) h6
 obtain ⟨v,h',e3,h3',r',h7⟩:=growC3_ok r rk h6
 refine ⟨v,h',?_,h3',r',h7⟩
 unfold insY
 rw [nU_of h4]
 exact e3
theorem ins3_ok {es fl:Nat} {a:RV} {k:KV} (r:HRel h3 h) (e:Good (ins3 es a fl h3 n k)):∃ v h' n',insX es a fl h n=.ok v h' n'∧∃ h3',HRel h3' h'∧Good (k v h3' n'):=by
 obtain ⟨x,r1,rfl,e1⟩:=cN_ok e
 obtain ⟨i,r2,rfl,e2⟩:=cN_ok e1
 obtain ⟨y,r3,rfl,e3⟩:=cN_ok e2
 rcases cNn_ok e3 with ⟨rfl,e4⟩ | ⟨_,_,_,e4⟩
 case inr=>exact Good.no e4
 rcases cL_ok e4 with ⟨_,e5⟩ | ⟨_,_,_,_,_,e5⟩ | ⟨b,o,l,ee,rfl,e5⟩ | ⟨_,_,_,e5⟩
 ·exact Good.no e5
 ·exact Good.no e5
 case inr.inr.inr=>exact Good.no e5
 rcases cM_ok e5 with ⟨i,rfl,e6⟩ | ⟨_,_,e6⟩ | e6
 case inr.inl=>exact Good.no e6
 case inr.inr=>exact Good.no e6
 rcases cL_ok e6 with ⟨_,e7⟩ | ⟨vb,vo,m,vc,rfl,e7⟩ | ⟨_,_,_,_,_,e7⟩ | ⟨_,_,_,e7⟩
 ·exact Good.no e7
 case inr.inr.inl=>exact Good.no e7
 case inr.inr.inr=>exact Good.no e7
 rcases ifA_ok e7 with ⟨h1,e8⟩ | ⟨_,e8⟩
 case inr=>exact Good.no e8
 obtain ⟨v,h',e9,h3',r',h4⟩:=insY3_ok r e8
 refine ⟨v,h',n + 1,?_,h3',r',h4⟩
 show bf (insOk fl es b l ee vb m i) (insY es b o l vb vo m i h n) (SR.bad [186])=_
 rw [h1]
 exact e9
theorem apC_ok {es m:Nat} {x y:RV} {k:KV} (r:HRel h3 h) (e:Good (apC fl es x m y h3 n k)):∃ v h' n',appC fl es x m y h n=.ok v h' n'∧∃ h3',HRel h3' h'∧Good (k v h3' n'):=by
 rcases cL_ok e with ⟨rfl,h1⟩ | ⟨b,o,l,c,rfl,h1⟩ | ⟨b,o,l,q,rfl,h1⟩ | ⟨b,q,rfl,h1⟩
 ·obtain ⟨v,h',e2,h3',r',h4⟩:=newY_ok r h1
  exact ⟨v,h',_,e2,h3',r',h4⟩
 ·rcases ifA_ok h1 with ⟨e1,h2⟩ | ⟨e1,h2⟩
  ·obtain ⟨h',e2,h3',r',h4⟩:=stB_ok r (frc_ok (k:=fun q=>stB fl h3 b q y fun h=>frc (Nat.add l m) fun lm=>k (.sl b o lm c) h n) h2)
   refine ⟨_,h',n,?_,h3',r',frc_ok (k:=fun lm=>k (.sl b o lm c) h3' n) h4⟩
   show bf (Nat.ble (Nat.add l m) c) (gR (stBlk fl h b (Nat.add o (Nat.mul l es)) y n) fun _ h n=>SR.ok (.sl b o (Nat.add l m) c) h n) _=_
   rw [e1,e2]
   rfl
  ·rcases ifA_ok h2 with ⟨e2,h4⟩ | ⟨e2,h4⟩
   ·obtain ⟨v,h',e3,h3',r',h5⟩:=newY_ok r h4
    refine ⟨v,h',_,?_,h3',r',h5⟩
    show bf (Nat.ble (Nat.add l m) c) _ (bf (Nat.beq l 0) (newBlk h n (lay y ce 0) (Nat.mul m es) (.su n 0 m es)) (growC h n es b o l y m h))=_
    rw [e1,e2]
    exact e3
   ·obtain ⟨v,h',e3,h3',r',h5⟩:=growC3_ok r r h4
    refine ⟨v,h',_,?_,h3',r',h5⟩
    show bf (Nat.ble (Nat.add l m) c) _ (bf (Nat.beq l 0) (newBlk h n (lay y ce 0) (Nat.mul m es) (.su n 0 m es)) (growC h n es b o l y m h))=_
    rw [e1,e2]
    exact e3
 ·obtain ⟨e1,h2⟩:=ifA_y h1
  have h2:=frc_ok (k:=fun sp=>ifA (Nat.ble m sp) (frc (Nat.add o (Nat.mul l es)) fun q=>stB fl h3 b q y fun h=>frc (Nat.add l m) fun lm=>frc (Nat.add es (Nat.mul 1048576 (Nat.sub sp m))) fun e=>k (.su b o lm e) h n) (ifA (Nat.ble fl b) (growU3 h3 n es b o l y m k) .no)) h2
  rcases ifA_ok h2 with ⟨e0,h2⟩ | ⟨e0,h2⟩
  ·obtain ⟨h',e2,h3',r',h4⟩:=stB_ok r (frc_ok (k:=fun p=>stB fl h3 b p y fun h=>frc (Nat.add l m) fun lm=>frc (Nat.add es (Nat.mul 1048576 (Nat.sub (Nat.div q 1048576) m))) fun e=>k (.su b o lm e) h n) h2)
   have h5:=frc_ok (k:=fun lm=>frc (Nat.add es (Nat.mul 1048576 (Nat.sub (Nat.div q 1048576) m))) fun e=>k (.su b o lm e) h3' n) h4
   have h6:=frc_ok (k:=fun e=>k (.su b o (Nat.add l m) e) h3' n) h5
   refine ⟨_,h',n,?_,h3',r',h6⟩
   show bf (Nat.beq (Nat.mod q 1048576) es) (bf (Nat.ble m (Nat.div q 1048576)) (gR (stBlk fl h b (Nat.add o (Nat.mul l es)) y n) fun _ h n=>SR.ok (.su b o (Nat.add l m) (Nat.add es (Nat.mul 1048576 (Nat.sub (Nat.div q 1048576) m)))) h n) _) _=_
   rw [e1,e0,e2]
   rfl
  obtain ⟨e2,h4⟩:=ifA_y h2
  obtain ⟨v,h',e3,h3',r',h5⟩:=growU3_ok r h4
  refine ⟨v,h',_,?_,h3',r',h5⟩
  show bf (Nat.beq (Nat.mod q 1048576) es) (bf (Nat.ble m (Nat.div q 1048576)) _ (bf (Nat.ble fl b) (growU h n es b o l y m (hst h .no b)) (SR.bad [113]))) (SR.bad [116])=_
  rw [e1,e0,e2]
  exact e3
 ·obtain ⟨e1,h2⟩:=ifA_y h1
  obtain ⟨e2,h4⟩:=ifA_y h2
  obtain ⟨c,z,c3,e3,rc,_,h5,hmz⟩:=hgetB r h4
  obtain ⟨kill,rk,h6⟩:=killB_ok r h5
  obtain ⟨v,h',e4,h3',r',h7⟩:=newY_ok rk h6
  refine ⟨v,h',_,?_,h3',r',h7⟩
  show bf (Nat.beq q es) (bf (Nat.ble fl b) (gK (SR.bad [118]) (hg h b) fun _ _=>newBlk (hst h .no b) n (lay y ce 0) (Nat.mul m es) (.su n 0 m es)) (SR.bad [114])) (SR.bad [117])=_
  rw [e1,e2,e3,bf_t,bf_t,gK_bk hmz]
  exact e4
/-! fields laid over a constant -/
theorem pat3_ok:∀ {off:Nat} {z p:RV} {k:RV→A},Good (pat3 off z p k)→patch z p off ≠ .un∧Good (k (patch z p off))
 | 0,z,p,k,e=>cUv_ok e
 | off + 1,z,p,k,e=>by
  obtain ⟨x,r,rfl,h1⟩:=cN_ok e
  obtain ⟨h2,h3⟩:=cU_ok h1
  obtain ⟨h4,h5⟩:=pat3_ok (off:=off) (z:=r) (p:=p) h3
  show kons x (patch r p off) ≠ .un∧Good (k (kons x (patch r p off)))
  rw [kons_of h2 h4]
  exact ⟨un_c,h5⟩
def FOk (f:F3→RV→(RV→A)→A) (l:List (Nat × Nat × RO)):Prop:=∀ t3 t z c,FR t3 t→z ≠ .un→Good (f t3 z c)→fillP t l z ≠ .un∧Good (c (fillP t l z))
theorem filw_ok:∀ l,∃ f,filw l=.mk f∧FOk f l
 | []=>⟨_,rfl,fun _ _ _ _ _ hz h=>⟨hz,h⟩⟩
 | x::l=>by
  obtain ⟨r,e1,h1⟩:=filw_ok l
  obtain ⟨g,e2,h2⟩:=ropW_ok x.2.2
  refine ⟨fil1 x.1 x.2.1 g r,?_,?_⟩
  ·show @Fw'.rec F3 (fun _=>Fw) (fun r=>@Gw.rec (fun _=>Fw) (fun g=>.mk (fil1 x.1 x.2.1 g r)) (ropW x.2.2)) (filw l)=_
   rw [e1,e2]
  ·intro t3 t z c hF hz e
   show (gC .un (ev t x.2.2) fun c=>gO .un (chLen c) fun m=>bf (Nat.beq m x.2.1) (nU .un (patch z c x.1) (fillP t l)) .un) ≠ .un∧Good (c (gC .un (ev t x.2.2) fun c=>gO .un (chLen c) fun m=>bf (Nat.beq m x.2.1) (nU .un (patch z c x.1) (fillP t l)) .un))
   rcases cC_ok (h2 _ _ _ hF e) with ⟨q,e3,h4⟩ | ⟨e3,_,h4⟩
   ·obtain ⟨m,e4,h5⟩:=cON_ok h4
    obtain ⟨e5,h6⟩:=ifA_y h5
    obtain ⟨h7,h8⟩:=pat3_ok h6
    have e3:ev t x.2.2=.agg q:=e3
    rw [e3]
    show (gO .un (chLen q) fun m=>bf (Nat.beq m x.2.1) (nU .un (patch z q x.1) (fillP t l)) .un) ≠ .un∧Good (c (gO .un (chLen q) fun m=>bf (Nat.beq m x.2.1) (nU .un (patch z q x.1) (fillP t l)) .un))
    rw [e4]
    show bf (Nat.beq m x.2.1) (nU .un (patch z q x.1) (fillP t l)) .un ≠ .un∧Good (c (bf (Nat.beq m x.2.1) (nU .un (patch z q x.1) (fillP t l)) .un))
    rw [e5]
    show nU .un (patch z q x.1) (fillP t l) ≠ .un∧Good (c (nU .un (patch z q x.1) (fillP t l)))
    rw [nU_of h7]
    exact h1 _ _ _ _ hF h7 h8
   ·obtain ⟨e5,h6⟩:=ifA_y h4
    obtain ⟨h7,h8⟩:=pat3_ok h6
    rw [show (gC .un (ev t x.2.2) fun c=>gO .un (chLen c) fun m=>bf (Nat.beq m x.2.1) (nU .un (patch z c x.1) (fillP t l)) .un)=bf (Nat.beq 1 x.2.1) (nU .un (patch z (.cons (ev t x.2.2) .nil) x.1) (fillP t l)) .un from e3 _ _]
    rw [e5]
    show nU .un (patch z (.cons (ev t x.2.2) .nil) x.1) (fillP t l) ≠ .un∧Good (c (nU .un (patch z (.cons (ev t x.2.2) .nil) x.1) (fillP t l)))
    rw [nU_of h7]
    exact h1 _ _ _ _ hF h7 h8
theorem gfl_ok {l:List (Nat × Nat × RO)} {f:(F3→RV→(RV→A)→A)→Ow} {o:RP} (h:∀ g,FOk g l→OwOk ys fl (f g) o):OwOk ys fl (gfl l f) o:=by
 obtain ⟨g,e,hg⟩:=filw_ok l
 unfold gfl
 rw [e]
 exact h g hg
theorem pBd_ok {z:RV} {ps:List (Nat × Nat × RO)} {f:F3→RV→(RV→A)→A} (hz:z ≠ .un) (hf:FOk f ps):POk ys (pBd z f) (.bd z ps):=fun t3 t c hF e=>by
 obtain ⟨h1,h2⟩:=hf _ _ _ _ hF hz e
 exact ⟨_,fun cl fl lim h n=>nU_of (d:=SR.bad [5]) (k:=fun c=>SR.ok (.agg c) h n) h1,h2⟩
theorem eBs_ok {z:RV} {len:Nat} {ps:List (Nat × Nat × RO)} {f:F3→RV→(RV→A)→A} (hz:z ≠ .un) (hf:FOk f ps):EOk ys fl (eBs z len f) (.bs z len ps):=fun cl3 cl t3 t h3 h n c _ hF hH e=>by
 obtain ⟨h1,h2⟩:=hf _ _ _ _ hF hz e
 obtain ⟨h',e2,h3',r',h4⟩:=newC_ok hH h2
 refine ⟨_,h',_,h3',?_,r',h4⟩
 show nU (SR.bad [6]) (fillP t ps z) (fun c=>newCh h n c (.sl n 0 len len))=_
 rw [nU_of h1]
 exact e2
theorem eAl_ok {z:RV}:EOk ys fl (eAl z) (.al z):=fun cl3 cl t3 t h3 h n c _ hF hH e=>by
 obtain ⟨h',e2,h3',r',h4⟩:=newC_ok hH e
 exact ⟨_,h',_,h3',e2,r',h4⟩
theorem eBx_ok {x:RO} {g:G3} (hg:GOk g fun t=>ev t x):EOk ys fl (eBx g) (.bx x):=fun cl3 cl t3 t h3 h n c _ hF hH e=>by
 rcases cC_ok (hg _ _ _ hF e) with ⟨q,e1,h1⟩ | ⟨e1,_,h1⟩
 ·obtain ⟨h',e2,h3',r',h4⟩:=newC_ok hH h1
  refine ⟨_,h',_,h3',?_,r',h4⟩
  have e1:ev t x=.agg q:=e1
  show gC (SR.bad [4]) (ev t x) (fun c=>newCh h n c (.p n 0))=_
  rw [e1]
  exact e2
 ·obtain ⟨h',e2,h3',r',h4⟩:=newC_ok hH h1
  refine ⟨_,h',_,h3',?_,r',h4⟩
  show gC (SR.bad [4]) (ev t x) (fun c=>newCh h n c (.p n 0))=_
  exact (e1 _ _).trans e2
theorem eLd_ok {ag:Bool} {m:Nat} {a:RO} {g:G3} (hga:GOk g fun t=>ev t a):EOk ys fl (eLd ag m g) (.ld ag m a):=fun cl3 cl t3 t h3 h n c _ hF hH e=>by
 obtain ⟨b,o,e1,h1⟩:=cP_ok (hga _ _ _ hF e)
 obtain ⟨cs,z,c3,e2,rc,hb,h2,hmz⟩:=hgetB hH h1
 obtain ⟨e3,_,h4⟩:=rdA_ok rc h2
 have e1:ev t a=.p b o:=e1
 refine ⟨_,h,n,h3,?_,hH,h4⟩
 show gP (SR.bad [10]) (ev t a) (fun b o=>bf (Nat.ble (Nat.succ b) LIM) (gK (SR.bad [7]) (hg h b) fun cs _=>ldC ag m cs o h n) (SR.bad [11]))=_
 rw [e1]
 show bf (Nat.ble (Nat.succ b) LIM) (gK (SR.bad [7]) (hg h b) fun cs _=>ldC ag m cs o h n) (SR.bad [11])=_
 rw [Nat.ble_eq_true_of_le (show Nat.succ b≤LIM by unfold LIM; omega),e2,bf_t,gK_bk hmz]
 exact e3 h n
theorem eSt_ok {m:Nat} {a v:RO} {g f:G3} (hg:GOk g fun t=>ev t a) (hf:GOk f fun t=>ev t v):EOk ys fl (eSt fl m g f) (.st m a v):=fun cl3 cl t3 t h3 h n c _ hF hH e=>by
 obtain ⟨b,o,e1,h1⟩:=cP_ok (hg _ _ _ hF e)
 have e1:ev t a=.p b o:=e1
 rcases cC_ok (hf _ _ _ hF h1) with ⟨q,e2,h2⟩ | ⟨e2,_,h2⟩
 ·obtain ⟨w,e3,h4⟩:=cON_ok h2
  obtain ⟨e4,h5⟩:=ifA_y h4
  obtain ⟨h',e5,h3',r',h6⟩:=stB_ok hH h5
  have e2:ev t v=.agg q:=e2
  refine ⟨_,h',n,h3',?_,r',h6⟩
  show gP (SR.bad [13]) (ev t a) (fun b o=>gC (SR.bad [12]) (ev t v) fun c=>gO (SR.bad [14]) (chLen c) fun q=>bf (Nat.beq q m) (stBlk fl h b o c n) (SR.bad [15]))=_
  rw [e1,e2]
  show gO (SR.bad [14]) (chLen q) (fun w=>bf (Nat.beq w m) (stBlk fl h b o q n) (SR.bad [15]))=_
  rw [e3]
  show bf (Nat.beq w m) (stBlk fl h b o q n) (SR.bad [15])=_
  rw [e4]
  exact e5 n
 ·obtain ⟨e4,h5⟩:=ifA_y h2
  obtain ⟨h',e5,h3',r',h6⟩:=st1_ok hH h5
  refine ⟨_,h',n,h3',?_,r',h6⟩
  show gP (SR.bad [13]) (ev t a) (fun b o=>gC (SR.bad [12]) (ev t v) fun c=>gO (SR.bad [14]) (chLen c) fun q=>bf (Nat.beq q m) (stBlk fl h b o c n) (SR.bad [15]))=_
  rw [e1]
  show gC (SR.bad [12]) (ev t v) (fun c=>gO (SR.bad [14]) (chLen c) fun q=>bf (Nat.beq q m) (stBlk fl h b o c n) (SR.bad [15]))=_
  rw [e2]
  show bf (Nat.beq 1 m) (stBlk fl h b o (.cons (ev t v) .nil) n) (SR.bad [15])=_
  rw [e4]
  exact e5 n
theorem eMs_ok {z:RV} {l c:RO} {g f:G3} (hg:GOk g fun t=>ev t l) (hf:GOk f fun t=>ev t c):EOk ys fl (eMs z g f) (.ms z l c):=fun cl3 cl t3 t h3 h n k _ hF hH e=>by
 rcases cM_ok (hg _ _ _ hF e) with ⟨a,e1,h1⟩ | ⟨_,_,h1⟩ | h1
 ·rcases cM_ok (hf _ _ _ hF h1) with ⟨b,e2,h2⟩ | ⟨_,_,h2⟩ | h2
  ·obtain ⟨e3,h4⟩:=ifA_y h2
   obtain ⟨e4,h5⟩:=ifA_y h4
   obtain ⟨_,h6⟩:=cUv_ok h5
   obtain ⟨h',e5,h3',r',h7⟩:=newC_ok hH h6
   have e1:ev t l=.i .i64 (.ofNat a):=e1
   have e2:ev t c=.i .i64 (.ofNat b):=e2
   refine ⟨_,h',_,h3',?_,r',h7⟩
   show gI (SR.bad [28]) (ev t l) (fun j a=>gI (SR.bad [29]) (ev t c) fun k b=>bf (bf (is64 j) (is64 k) false) (bf (nonI a) (bf (nonI b) (bf (Nat.ble (natI a) (natI b)) (bf (Nat.ble (natI b) 65536) (newCh h n (rep z (natI b)) (.sl n 0 (natI a) (natI b))) (SR.bad [30])) (SR.bad [31])) (SR.bad [32])) (SR.bad [33])) (SR.bad [34]))=_
   rw [e1,e2]
   show bf (Nat.ble a b) (bf (Nat.ble b 65536) (newCh h n (rep z b) (.sl n 0 a b)) (SR.bad [30])) (SR.bad [31])=_
   rw [e3,e4]
   exact e5
  ·exact Good.no h2
  ·exact Good.no h2
 ·exact Good.no h1
 ·exact Good.no h1
theorem eCl_ok {f:Nat} {as:List RO} {g:G3} (hg:COk g fun t=>evL t as):EOk ys fl (eCl f g) (.cl f as):=fun cl3 cl t3 t h3 h n k hcl hF hH e=>by
 obtain ⟨h1,h2⟩:=hg _ _ _ hF e
 obtain ⟨v,h',n',h3',e1,r',h4⟩:=hcl _ _ _ _ _ _ hH h2
 refine ⟨v,h',n',h3',?_,r',h4⟩
 show nU (SR.bad [65]) (evL t as) (fun c=>cl f c fl h n)=_
 rw [nU_of h1]
 exact e1
theorem gN_cons {α:Type} {d k0:α} {a r:RV} {k1:RV→RV→α}:gN d (.cons a r) k0 k1=k1 a r:=rfl
theorem gN_nil {α:Type} {d k0:α} {k1:RV→RV→α}:gN d .nil k0 k1=k0:=rfl
theorem gF_fn {α:Type} {d:α} {f:Nat} {c:RV} {k:Nat→RV→α}:gF d (.fn f c) k=k f c:=rfl
theorem eCf_ok {x:RO} {as:List RO} {a g:G3} (ha:GOk a fun t=>ev t x) (hg:COk g fun t=>evL t as):EOk ys fl (eCf a g) (.cf x as):=fun cl3 cl t3 t h3 h n k hcl hF hH e=>by
 obtain ⟨f,q,e1,h0⟩:=cF_ok (ha _ _ _ hF e)
 obtain ⟨h1,h2⟩:=hg _ _ _ hF h0
 have e1:ev t x=.fn f q:=e1
 have key:step (.cf x as) ys cl fl LIM t h n=bf (Nat.ble BND f) (gN (SR.bad [150]) q (.bad [151]) fun y r=>bf (Nat.ble 33554432 f) (gN (.bad [153]) r (cl (Nat.sub f BND) (.cons y (evL t as)) fl h n) fun _ _=>.bad [154]) (nU (.bad [152]) (chApp (evL t as) r) fun q=>cl (Nat.sub f BND) (.cons y q) fl h n)) (nU (SR.bad [68]) (chApp (evL t as) q) fun r=>cl f r fl h n):=by
  show gF (SR.bad [66]) (ev t x) (fun f c=>nU (SR.bad [67]) (evL t as) fun a=>bf (Nat.ble BND f) (gN (.bad [150]) c (.bad [151]) fun y r=>bf (Nat.ble 33554432 f) (gN (.bad [153]) r (cl (Nat.sub f BND) (.cons y a) fl h n) fun _ _=>.bad [154]) (nU (.bad [152]) (chApp a r) fun q=>cl (Nat.sub f BND) (.cons y q) fl h n)) (nU (SR.bad [68]) (chApp a c) fun r=>cl f r fl h n))=_
  rw [e1]
  show nU (SR.bad [67]) (evL t as) _=_
  rw [nU_of h1]
 rw [key]
 rcases ifA_ok h2 with ⟨e2,h3⟩ | ⟨e2,h3⟩
 ·obtain ⟨y,r,rfl,h4⟩:=cN_ok h3
  rcases ifA_ok h4 with ⟨e5,h4⟩ | ⟨e5,h4⟩
  ·rcases cNn_ok h4 with ⟨rfl,h5⟩ | ⟨_,_,_,h5⟩
   ·have h7:=frc_ok h5
    obtain ⟨v,h',n',h3',e3,r',h8⟩:=hcl _ _ _ _ _ _ hH h7
    refine ⟨v,h',n',h3',?_,r',h8⟩
    rw [e2,bf_t,gN_cons,e5,bf_t,gN_nil]
    exact e3
   ·exact Good.no h5
  obtain ⟨h5,h6⟩:=cUv_ok h4
  have h7:=frc_ok h6
  obtain ⟨v,h',n',h3',e3,r',h8⟩:=hcl _ _ _ _ _ _ hH h7
  refine ⟨v,h',n',h3',?_,r',h8⟩
  rw [e2,bf_t,gN_cons,e5]
  show nU (SR.bad [152]) (chApp (evL t as) r) (fun q=>cl (Nat.sub f BND) (.cons y q) fl h n)=_
  rw [nU_of h5]
  exact e3
 ·obtain ⟨h5,h6⟩:=cUv_ok h3
  obtain ⟨v,h',n',h3',e3,r',h4⟩:=hcl _ _ _ _ _ _ hH h6
  refine ⟨v,h',n',h3',?_,r',h4⟩
  rw [e2]
  show nU (SR.bad [68]) (chApp (evL t as) q) (fun r=>cl f r fl h n)=_
  rw [nU_of h5]
  exact e3
theorem chS3_ok {o:Option (List Nat)} {k:List Nat→A} (h:Good (chS3 o k)):∃ l,o=some l∧Good (k l):=by cases o <;> first | exact ⟨_,rfl,h⟩ | exact Good.no h
theorem slCells_zero {es:Nat} {r:RV} (hr:slLen r=some 0):slCells h es r 0=.nil:=by
 cases r <;> first | (cases hr; done) | rfl | (cases hr; rfl)
theorem join3_ok {a:RV} {k:KV} (r:HRel h3 h) (e:Good (join3 a h3 n k)):∃ v h' n',joinX a h n=.ok v h' n'∧∃ h3',HRel h3' h'∧Good (k v h3' n'):=by
 obtain ⟨x,r1,rfl,e1⟩:=cN_ok e
 obtain ⟨y,r2,rfl,e2⟩:=cN_ok e1
 rcases cNn_ok e2 with ⟨rfl,e3⟩ | ⟨_,_,_,e3⟩
 case inr=>exact Good.no e3
 obtain ⟨m,e4,h1⟩:=cLen_ok e3
 obtain ⟨e5,h2⟩:=ifA_y h1
 obtain ⟨sep,rfl,h4⟩:=cS_ok h2
 obtain ⟨e6,h5⟩:=slC_ok r h4
 obtain ⟨l,e7,h6⟩:=chS3_ok h5
 obtain ⟨e8,h7⟩:=ifA_y h6
 refine ⟨.s l,h,n,?_,h3,r,frcL_ok (k:=fun l=>k (.s l) h3 n) h7⟩
 show gO (SR.bad [198]) (slLen x) (fun m=>bf (bf (Nat.ble 2 m) (Nat.ble m 65536) false) (nU (.bad [200]) (slCells h 1 x m) fun c=>gO (.bad [201]) (joinL sep c) fun l=>bf (Nat.ble l.length 1048576) (.ok (.s l) h n) (.bad [202])) (.bad [203]))=_
 rw [e4]
 show bf (bf (Nat.ble 2 m) (Nat.ble m 65536) false) _ _=_
 rw [e5]
 show nU _ (slCells h 1 x m) _=_
 rw [nU_of e6,e7]
 show bf (Nat.ble l.length 1048576) _ _=_
 rw [e8]; rfl
theorem isA3_ok {t:Nat} {v:RV} {k:Nat→Nat→A} (e:Good (isA3 t v k)):∃ b o,(∀ q:Nat→Nat→SR,isA t v q=q b o)∧Good (k b o):=by
 obtain ⟨f,hf,⟨_,e1⟩ | ⟨x,rfl,e1⟩⟩:=cIf_ok e
 ·exact Good.no e1
 obtain ⟨e2,h2⟩:=ifA_y e1
 obtain ⟨b,o,rfl,h3⟩:=cP_ok h2
 refine ⟨b,o,fun q=>?_,h3⟩
 show bf (Nat.ble 33554432 f) (bf (Nat.beq f (Nat.add 33554432 t)) (q b o) _) _=_
 rw [hf,e2]; rfl
theorem is3_ok {ch a:RV} {k:KV} (r:HRel h3 h) (e:Good (is3 ch a h3 n k)):∃ v h' n',isX ch a h n=.ok v h' n'∧∃ h3',HRel h3' h'∧Good (k v h3' n'):=by
 obtain ⟨tr,tp,rfl,e0⟩:=cP_ok e
 obtain ⟨x,r1,rfl,e1⟩:=cN_ok e0
 obtain ⟨y,r2,rfl,e2⟩:=cN_ok e1
 rcases cNn_ok e2 with ⟨rfl,e3⟩ | ⟨_,_,_,e3⟩
 case inr=>exact Good.no e3
 obtain ⟨b,o,x1,e4⟩:=isA3_ok e3
 obtain ⟨b2,o2,x2,e5⟩:=isA3_ok e4
 obtain ⟨cs,z,c3,hb,rc,_,e6,hmz⟩:=hgetB r e5
 have e7:=cget_ok rc (frc_ok e6)
 obtain ⟨b1,o1,x3,e8⟩:=isA3_ok e7
 obtain ⟨cs1,z1,c31,hb1,_,_,e9,hmz1⟩:=hgetB r e8
 obtain ⟨cs2,z2,c32,hb2,_,_,e10,hmz2⟩:=hgetB r e9
 obtain ⟨y1,e11⟩:=ifA_y e10
 obtain ⟨y2,e12⟩:=ifA_y e11
 rcases ifA_ok e12 with ⟨_,e13⟩ | ⟨y3,e13⟩
 ·exact Good.no e13
 obtain ⟨y4,e13⟩:=ifA_y e13
 refine ⟨.b false,h,n,?_,h3,r,e13⟩
 show isA tr x (fun b o=>isA tp y fun b2 o2=>gK (.bad [216]) (hg h b) fun cs _=>isA tp (cg cs (Nat.succ o)) fun b1 o1=>gK (.bad [217]) (hg h b1) fun _ _=>gK (.bad [218]) (hg h b2) fun _ _=>bf (Nat.ble 97 b1) (bf (Nat.ble 97 b2) (bf (Nat.beq b1 b2) (.bad [219]) (bf (Nat.beq o1 o2) (.ok (.b false) h n) (.bad [222]))) (.bad [220])) (.bad [220]))=_
 rw [x1,x2,hb,gK_bk hmz,x3,hb1,gK_bk hmz1,hb2,gK_bk hmz2,y1,y2,y3,y4]
 rfl
theorem row3X_ok {ch:RV} {k:KV} (r:HRel h3 h) (e:Good (row3X ch h3 n k)):∃ v h' n',rowX ch h n=.ok v h' n'∧∃ h3',HRel h3' h'∧Good (k v h3' n'):=by
 obtain ⟨z,e1,h1⟩:=cON_ok e
 obtain ⟨h',e2,h3',r',h4⟩:=newC_ok r h1
 refine ⟨_,h',n + 1,?_,h3',r',h4⟩
 show gO (SR.bad [221]) (chLen ch) (fun z=>newBlk h n (lay ch ce 0) z (.sl n 0 z z))=_
 unfold newCh at e2
 rw [e1] at e2 ⊢
 exact e2
theorem lst13_ok {x:RV} {k:RV→A} (r:HRel h3 h) (e:Good (lst13 x h3 k)):∃ y,(∀ q:RV→SR,lst1 x h q=q y)∧Good (k y):=by
 obtain ⟨m,e1,h1⟩:=cLen_ok e
 obtain ⟨e2,h2⟩:=ifA_y h1
 obtain ⟨e3,h4⟩:=slC_ok r h2
 obtain ⟨y,t,e4,h5⟩:=cN_ok h4
 rcases cNn_ok h5 with ⟨rfl,h6⟩ | ⟨_,_,_,h6⟩
 case inr=>exact Good.no h6
 refine ⟨y,fun q=>?_,h6⟩
 show gO (SR.bad [231]) (slLen x) (fun m=>bf (Nat.beq m 1) (nU (.bad [232]) (slCells h 1 x 1) fun c=>gN (.bad [233]) c (.bad [233]) fun y r=>gN (.bad [234]) r (q y) fun _ _=>.bad [234]) (.bad [235]))=_
 rw [e1]
 show bf (Nat.beq m 1) _ _=_
 rw [e2]
 show nU (SR.bad [232]) (slCells h 1 x 1) _=_
 rw [nU_of e3,e4]
 rfl
theorem lst3_ok {a:RV} {k:KV} (r:HRel h3 h) (e:Good (lst3 a h3 n k)):∃ v h' n',lstX a h n=.ok v h' n'∧∃ h3',HRel h3' h'∧Good (k v h3' n'):=by
 obtain ⟨x,r1,rfl,e1⟩:=cN_ok e
 obtain ⟨y,r2,rfl,e2⟩:=cN_ok e1
 rcases cNn_ok e2 with ⟨rfl,e3⟩ | ⟨_,_,_,e3⟩
 case inr=>exact Good.no e3
 obtain ⟨j,z0,rfl,e4⟩:=cI_ok e3
 obtain ⟨q1,e5⟩:=ifA_y e4
 obtain ⟨q2,e6⟩:=ifA_y e5
 obtain ⟨y1,l1,e7⟩:=lst13_ok r e6
 obtain ⟨y2,l2,e8⟩:=lst13_ok r e7
 obtain ⟨j2,z,rfl,e9⟩:=cI_ok e8
 obtain ⟨q3,e10⟩:=ifA_y e9
 obtain ⟨q4,e11⟩:=ifA_y e10
 obtain ⟨q5,e12⟩:=ifA_y e11
 refine ⟨.s [Nat.add 48 (natI z),10],h,n,?_,h3,r,frcL_ok (k:=fun l=>k (.s l) h3 n) e12⟩
 show bf (is64 j) (bf (eqI z0 0) (lst1 x h fun y=>lst1 y h fun v=>digX v h n) (SR.bad [237])) (SR.bad [237])=_
 rw [q1,q2]
 show lst1 x h (fun y=>lst1 y h fun v=>digX v h n)=_
 rw [l1,l2]
 show bf (is64 j2) (bf (nonI z) (bf (Nat.ble (natI z) 9) (SR.ok (.s [Nat.add 48 (natI z),10]) h n) (.bad [239])) (.bad [244])) (.bad [245])=_
 rw [q3,q4,q5]
 rfl
theorem told3_ok {ys:Ys} {es fl:Nat} {ch a:RV} {k:KV} (r:HRel h3 h) (e:Good (told3 ys es ch a fl h3 n k)):∃ v h' n',toldX ys es ch a fl h n=.ok v h' n'∧∃ h3',HRel h3' h'∧Good (k v h3' n'):=by
 unfold toldX
 rcases ifA_ok e with ⟨hz,e1⟩ | ⟨hz,e1⟩
 ·rcases ifA_ok e1 with ⟨hy,e2⟩ | ⟨hy,e2⟩
  ·rcases ifA_ok e2 with ⟨hx,e3⟩ | ⟨hx,e3⟩
   ·rcases ifA_ok e3 with ⟨hw,e4⟩ | ⟨hw,e4⟩
    ·rw [hz,hy,hx,hw]; exact lst3_ok r e4
    ·rw [hz,hy,hx,hw]; exact row3X_ok r e4
   ·rw [hz,hy,hx]; exact is3_ok r e3
  ·rw [hz,hy]; exact join3_ok r e2
 ·rw [hz]; exact ins3_ok r e1
theorem gMK_bk {α:Type} {d:α} {c:CT} {k:CT→α}:gMK d (.bk c MAPZ) k=k c:=rfl
theorem wS3_ok {c3:C3} {c:CT} {k:List Nat→A} (r:CRel c3 c) (h:Good (wS3 c3 k)):∃ l,cg c 0=.s l∧Good (k l):=cS_ok (cget_ok r h)
theorem cW_ok {v:RV} {d:A} {k:Nat→List Nat→A} (r:HRel h3 h) (e:Good (cW h3 v d k)):(Good d∧∀ {α:Type} (d':α) (k':Nat→List Nat→α),gW d' h v k'=d') ∨
  ∃ b l,Good (k b l)∧∀ {α:Type} (d':α) (k':Nat→List Nat→α),gW d' h v k'=k' b l:=by
 rcases cL_ok e with ⟨rfl,e1⟩ | ⟨b,o,l,c,rfl,e1⟩ | ⟨b,o,l,q,rfl,e1⟩ | ⟨b,q,rfl,e1⟩
 ·exact .inl ⟨e1,fun _ _=>rfl⟩
 ·exact .inl ⟨e1,fun _ _=>rfl⟩
 ·have st:∀ {α:Type} (d':α) (k':Nat→List Nat→α),gW d' h (.su b o l q) k'=bf (Nat.beq o 0) (bf (Nat.beq q 1) (gMK d' (hg h b) fun c=>gS d' (cg c 0) fun s=>bf (Nat.beq s.length l) (k' b s) d') d') d':=fun _ _=>rfl
  rcases ifA_ok e1 with ⟨ho,e2⟩ | ⟨ho,e2⟩
  ·rcases ifA_ok e2 with ⟨hq,e3⟩ | ⟨hq,e3⟩
   ·obtain ⟨b3,rb,_,e4⟩:=hget_ok r e3
    cases hb:hg h b with
    | no=>
     rw [hb] at rb
     have:b3=noB:=rb
     subst this
     exact Good.no e4
    | bk c z=>
     rw [hb] at rb
     rcases rb with ⟨hz,c3,rfl,rc⟩ | ⟨rfl,c3,rfl,rc⟩
     ·refine .inl ⟨e4,fun d' k'=>?_⟩
      have hz':Nat.beq z MAPZ=false:=by
       cases hq:Nat.beq z MAPZ with
       | false=>rfl
       | true=>exact absurd (Nat.eq_of_beq_eq_true hq) hz
      rw [st,ho,hq,hb]
      show bf (Nat.beq z MAPZ) _ d'=d'
      rw [hz']; rfl
     ·obtain ⟨s,e5,e6⟩:=wS3_ok rc e4
      obtain ⟨e7,e8⟩:=ifA_y e6
      refine .inr ⟨b,s,e8,fun d' k'=>?_⟩
      rw [st,ho,hq,hb,bf_t,bf_t,gMK_bk,e5]
      show bf (Nat.beq s.length l) (k' b s) d'=_
      rw [e7]; rfl
   ·exact .inl ⟨e3,fun d' k'=>by rw [st,ho,hq]; rfl⟩
  ·exact .inl ⟨e2,fun d' k'=>by rw [st,ho]; rfl⟩
 ·exact .inl ⟨e1,fun _ _=>rfl⟩
theorem wide3_ok {l:List Nat} {k:KV} (r:HRel h3 h) (e:Good (wide3 h3 n l k)):∃ v h' n',wide h n l=.ok v h' n'∧∃ h3',HRel h3' h'∧Good (k v h3' n'):=by
 have e:=frcL_ok (k:=fun l=>cupd ce3 0 (fun _ c=>c (.s l)) fun cs=>hupd h3 n (fun _ f=>f (mpB cs)) fun h=>frc l.length fun q=>frc (Nat.succ n) fun m=>k (.su n 0 q 1) h m) e
 obtain ⟨_,g,h1,h2⟩:=cupd_ok ce3_ok e
 obtain ⟨c3,rc,h4⟩:=h2 _ h1
 obtain ⟨_,b3,g',_,h5,h6⟩:=hupd_ok r h4
 obtain ⟨h3',r',h7⟩:=h6 (mpB c3) (.bk (cst ce (.s l) 0) MAPZ) (.inr ⟨rfl,c3,rfl,rc⟩) h5
 have h8:=frc_ok (k:=fun q=>frc (Nat.succ n) fun m=>k (.su n 0 q 1) h3' m) h7
 refine ⟨.su n 0 l.length 1,_,_,?_,h3',r',frc_ok (k:=fun m=>k (.su n 0 l.length 1) h3' m) h8⟩
 show fT (cst ce (.s l) 0) (fun cs=>fT (hst h (.bk cs MAPZ) n) fun h=>SR.ok (.su n 0 l.length 1) h (Nat.succ n))=_
 rw [fT_id,fT_id]
theorem rdS3_ok {x:RV} {k:KV} (r:HRel h3 h) (e:Good (rdS3 x h3 n k)):∃ v h' n',rdS x h n=.ok v h' n'∧∃ h3',HRel h3' h'∧Good (k v h3' n'):=by
 obtain ⟨m,e1,h1⟩:=cLen_ok e
 obtain ⟨e2,h2⟩:=ifA_y h1
 have st:rdS x h n=nU (SR.bad [193]) (slCells h 1 x m) fun c=>gO (.bad [194]) (chS c) fun l=>.ok (.s l) h n:=by
  show gO (SR.bad [192]) (slLen x) (fun m=>bf (Nat.ble m 1048576) (nU (.bad [193]) (slCells h 1 x m) fun c=>gO (.bad [194]) (chS c) fun l=>.ok (.s l) h n) (.bad [195]))=_
  rw [e1]
  show bf (Nat.ble m 1048576) _ _=_
  rw [e2]; rfl
 rcases ifA_ok h2 with ⟨e3,h4⟩ | ⟨_,h4⟩
 ·obtain rfl:=Nat.eq_of_beq_eq_true e3
  refine ⟨.s [],h,n,?_,h3,r,h4⟩
  rw [st,slCells_zero e1]; rfl
 ·obtain ⟨h5,h6⟩:=slC_ok r h4
  obtain ⟨l,e4,h7⟩:=chS3_ok h6
  refine ⟨.s l,h,n,?_,h3,r,frcL_ok (k:=fun l=>k (.s l) h3 n) h7⟩
  rw [st,nU_of h5,e4]; rfl
theorem eB2_ok {b:Bool} {x:RO} {a:G3} (ha:GOk a fun t=>ev t x):EOk ys fl (eB2 b a) (.b2 b x):=fun cl3 cl t3 t h3 h n k hcl hF hH e=>by
 have h1:=ha _ _ _ hF e
 have st:step (.b2 b x) ys cl fl LIM t h n=bf b (gS (.bad [243]) (ev t x) fun l=>wide h n l) (gW (rdS (ev t x) h n) h (ev t x) fun _ l=>.ok (.s l) h n):=rfl
 rcases ifA_ok h1 with ⟨rfl,h2⟩ | ⟨rfl,h2⟩
 ·obtain ⟨l,e1,h4⟩:=cS_ok h2
  have e1:ev t x=.s l:=e1
  obtain ⟨v,h',n',e2,h3',r',h5⟩:=wide3_ok hH h4
  refine ⟨v,h',n',h3',?_,r',h5⟩
  rw [st,e1]
  exact e2
 ·rcases cW_ok hH h2 with ⟨h4,e1⟩ | ⟨b,l,h4,e1⟩
  ·obtain ⟨v,h',n',e2,h3',r',h5⟩:=rdS3_ok hH h4
   refine ⟨v,h',n',h3',?_,r',h5⟩
   rw [st,show ∀ d k,gW d h (ev t x) k=d from e1]
   exact e2
  ·refine ⟨.s l,h,n,h3,?_,hH,h4⟩
   rw [st,show ∀ (d:SR) k,gW d h (ev t x) k=k b l from e1]
   rfl
theorem ivR3_ok {st ag:Bool} {off m:Nat} {u:RV} {k:RV→A} (h:Good (ivR3 st ag off m u k)):∃ v,(∀ h n,ivR st ag off m u h n=.ok v h n)∧Good (k v):=by
 rcases ifA_ok h with ⟨rfl,h1⟩ | ⟨rfl,h1⟩
 ·obtain ⟨c,rfl,h2⟩:=cA_ok h1
  obtain ⟨v,h3,h4⟩:=part3_ok h2
  exact ⟨v,fun h n=>h3 h n,h4⟩
 ·obtain ⟨h2,h3⟩:=cUv_ok h1
  exact ⟨u,fun h n=>okV_of h2,h3⟩
theorem ivL3_ok {f:Nat} {u:RV} {k3:Nat→RV→A}:∀ {l:List IvE},Good (ivL3 f l u k3)→∃ g r,(∀ h n k,ivL f l u h n k=k g r)∧Good (k3 g r)
 | [],h=>Good.no h
 | .e ty g st ag off m::l,h=>by
  have h0:Good (ifA (Nat.beq f (Nat.add 33554432 ty)) (ivR3 st ag off m u fun r=>k3 g r) (ivL3 f l u k3)):=h
  have st0:∀ h n k,ivL f (.e ty g st ag off m::l) u h n k=bf (Nat.beq f (Nat.add 33554432 ty)) (gR (ivR st ag off m u h n) fun r _ _=>k g r) (ivL f l u h n k):=fun _ _ _=>rfl
  rcases ifA_ok h0 with ⟨hb,h1⟩ | ⟨hb,h1⟩
  ·obtain ⟨r,h2,h3⟩:=ivR3_ok h1
   exact ⟨g,r,fun h n k=>by rw [st0,hb,h2]; rfl,h3⟩
  ·obtain ⟨g2,r,h2,h3⟩:=ivL3_ok h1
   exact ⟨g2,r,fun h n k=>by rw [st0,hb]; exact h2 h n k,h3⟩
theorem eIv_ok {l:List IvE} {x:RO} {as:List RO} {a g:G3} (ha:GOk a fun t=>ev t x) (hg:COk g fun t=>evL t as):EOk ys fl (eIv l a g) (.iv l x as):=fun cl3 cl t3 t h3 h n k hcl hF hH e=>by
 obtain ⟨f,hf,h1⟩:=cIf_ok (ha _ _ _ hF e)
 rcases h1 with ⟨_,h2⟩ | ⟨y,e1,h2⟩
 ·exact Good.no h2
 have e1:ev t x=.fn f (.cons .nil (.cons y .nil)):=e1
 obtain ⟨g0,r,e2,h3'⟩:=ivL3_ok h2
 obtain ⟨h4,h5⟩:=hg _ _ _ hF h3'
 obtain ⟨v,h',n',h3'',e3,r',h6⟩:=hcl _ _ _ _ _ _ hH h5
 refine ⟨v,h',n',h3'',?_,r',h6⟩
 have st:step (.iv l x as) ys cl fl LIM t h n=gIf (.bad [189]) (ev t x) (.bad [190]) (fun f v=>ivL f l v h n fun g r=>nU (.bad [191]) (evL t as) fun a=>cl g (.cons r a) fl h n):=rfl
 rw [st,e1,gIf_if hf,e2,nU_of h4]
 exact e3
theorem chB3_ok:∀ {l:List Nat} {k:RV→A},Good (chB3 l k)→Good (k (chB l))
 | [],_,h=>h
 | _::l,_,h=>chB3_ok (l:=l) h
theorem cYLen_ok {v:RV} {k:Nat→A} (h:Good (cYLen v k)):∃ l,yLen v=some l∧Good (k l):=by
 cases v with
 | s l=>exact ⟨l.length,rfl,frc_ok (k:=k) h⟩
 | ns=>exact ⟨_,rfl,h⟩
 | sl b o l c=>exact ⟨_,rfl,h⟩
 | su b o l c=>exact ⟨_,rfl,h⟩
 | sx b c=>exact ⟨_,rfl,h⟩
 | _=>exact Good.no h
theorem chB_un (l:List Nat):chB l ≠ .un:=by cases l <;> (intro h; cases h)
theorem slCY_eq {es m:Nat} {v:RV} {k:RV→A} (hv:∀ l,v ≠ .s l):slCY h3 es v m k=slC h3 es v m k∧yCells h es v m=slCells h es v m:=by
 cases v with
 | s l=>exact absurd rfl (hv l)
 | _=>exact ⟨rfl,rfl⟩
theorem slCY_ok {es m:Nat} {v:RV} {k:RV→A} (r:HRel h3 h) (e:Good (slCY h3 es v m k)):yCells h es v m ≠ .un∧Good (k (yCells h es v m)):=by
 by_cases hv:∃ l,v=.s l
 ·obtain ⟨l,rfl⟩:=hv
  obtain ⟨e1,h1⟩:=ifA_y (show Good (ifA (Nat.beq es 1) (ifA (Nat.beq m l.length) (chB3 l k) .no) .no) from e)
  obtain ⟨e2,h2⟩:=ifA_y h1
  have e3:yCells h es (.s l) m=chB l:=by
   show bf (Nat.beq es 1) (bf (Nat.beq m l.length) (chB l) .un) .un=_
   rw [e1,e2]; rfl
  rw [e3]
  exact ⟨chB_un l,chB3_ok h2⟩
 ·have hv:∀ l,v ≠ .s l:=fun l e=>hv ⟨l,e⟩
  rw [(slCY_eq (h:=h) hv).1] at e
  rw [(slCY_eq (h3:=h3) (k:=k) hv).2]
  exact slC_ok r e
theorem apO_ok {es:Nat} {x:RO} {a:G3} {yv:RV} {t3:F3} {t:FT} {k:KV} (ha:GOk a fun t=>ev t x) (hF:FR t3 t) (hH:HRel h3 h) (h1:Good (apO fl es a yv t3 h3 n k)):∃ v h' n' h3',app fl es (ev t x) yv h n=.ok v h' n'∧HRel h3' h'∧Good (k v h3' n'):=by
 obtain ⟨m,e1,h1⟩:=cYLen_ok h1
 have st:app fl es (ev t x) yv h n=bf (Nat.beq m 0) (gO (SR.bad [111]) (slLen (ev t x)) fun _=>okV (ev t x) h n 111) (bf (Nat.ble m 1048576) (nU (SR.bad [112]) (yCells h es yv m) fun c=>gO (SR.bad [109]) (slLen (ev t x)) fun l=>bf (Nat.ble l 1048576) (appC fl es (ev t x) m c h n) (SR.bad [108])) (SR.bad [107])):=by
  show gO (SR.bad [110]) (yLen yv) _=_
  rw [e1]
  rfl
 rw [st]
 rcases ifA_ok h1 with ⟨e2,h2⟩ | ⟨e2,h2⟩
 ·obtain ⟨l,e3,h4⟩:=cLen_ok (ha _ _ _ hF h2)
  have e3:slLen (ev t x)=some l:=e3
  obtain ⟨h5,h6⟩:=cU_ok h4
  refine ⟨_,h,n,h3,?_,hH,h6⟩
  rw [e2,e3]
  exact okV_of h5
 ·obtain ⟨e3,h4⟩:=ifA_y h2
  obtain ⟨h5,h6⟩:=slCY_ok hH h4
  obtain ⟨l,e4,h7⟩:=cLen_ok (ha _ _ _ hF h6)
  obtain ⟨e5,h8⟩:=ifA_y h7
  obtain ⟨v,h',n',e6,h3',r',h9⟩:=apC_ok hH h8
  have e4:slLen (ev t x)=some l:=e4
  refine ⟨v,h',n',h3',?_,r',h9⟩
  rw [e2,e3]
  show nU (SR.bad [112]) (yCells h es yv m) (fun c=>gO (SR.bad [109]) (slLen (ev t x)) fun l=>bf (Nat.ble l 1048576) (appC fl es (ev t x) m c h n) (SR.bad [108]))=_
  rw [nU_of h5,e4]
  show bf (Nat.ble l 1048576) (appC fl es (ev t x) m (yCells h es yv m) h n) (SR.bad [108])=_
  rw [e5]
  exact e6
theorem gS_no {α:Type} {d:α} {v:RV} {k:List Nat→α} (hv:∀ l,v ≠ .s l):gS d v k=d:=by
 cases v with
 | s l=>exact absurd rfl (hv l)
 | _=>rfl
theorem eAp_ok {es:Nat} {x y:RO} {a b:G3} (ha:GOk a fun t=>ev t x) (hb:GOk b fun t=>ev t y):EOk ys fl (eAp fl es a b) (.ap es x y):=fun cl3 cl t3 t h3 h n k hcl hF hH e=>by
 have h1:=hb _ _ _ hF e
 have st:step (.ap es x y) ys cl fl LIM t h n=appW fl es (ev t x) (ev t y) h n:=rfl
 rw [st]
 unfold appW
 by_cases hv:∃ l,ev t y=.s l
 ·obtain ⟨r,hr⟩:=hv
  have h1:Good (gS (apO fl es a (ev t y) t3 h3 n k) (ev t y) fun r=>a t3 fun xv=>cW h3 xv (apO fl es a (ev t y) t3 h3 n k) fun b l=>ifA (Nat.beq es 1) (ifA (Nat.ble fl b) (ifA (Nat.ble (Nat.add l.length r.length) 1048576) (killB h3 b fun h=>wide3 h n (l ++ r) k) .no) .no) .no):=h1
  rw [hr] at h1 ⊢
  rcases cW_ok hH (ha _ _ _ hF h1) with ⟨h4,e1⟩ | ⟨b,l,h4,e1⟩
  ·obtain ⟨v,h',n',h3',e2,r',h5⟩:=apO_ok ha hF hH h4
   refine ⟨v,h',n',h3',?_,r',h5⟩
   show gW (app fl es (ev t x) (.s r) h n) h (ev t x) _=_
   rw [show ∀ (d:SR) k,gW d h (ev t x) k=d from e1]
   exact e2
  ·obtain ⟨q1,h5⟩:=ifA_y h4
   obtain ⟨q2,h6⟩:=ifA_y h5
   obtain ⟨q3,h7⟩:=ifA_y h6
   obtain ⟨kill,rk,h8⟩:=killB_ok hH h7
   obtain ⟨v,h',n',e2,h3',r',h9⟩:=wide3_ok rk h8
   refine ⟨v,h',n',h3',?_,r',h9⟩
   show gW (app fl es (ev t x) (.s r) h n) h (ev t x) _=_
   rw [show ∀ (d:SR) k,gW d h (ev t x) k=k b l from e1]
   rw [q1,q2,q3]
   exact e2
 ·have hv:∀ l,ev t y ≠ .s l:=fun l e=>hv ⟨l,e⟩
  rw [gS_no hv]
  have h1:Good (gS (apO fl es a (ev t y) t3 h3 n k) (ev t y) fun r=>a t3 fun xv=>cW h3 xv (apO fl es a (ev t y) t3 h3 n k) fun b l=>ifA (Nat.beq es 1) (ifA (Nat.ble fl b) (ifA (Nat.ble (Nat.add l.length r.length) 1048576) (killB h3 b fun h=>wide3 h n (l ++ r) k) .no) .no) .no):=h1
  rw [gS_no hv] at h1
  obtain ⟨v,h',n',h3',e2,r',h5⟩:=apO_ok ha hF hH h1
  exact ⟨v,h',n',h3',e2,r',h5⟩
theorem eAz_ok {es:Nat} {z:RV} {x y:RO} {g f:G3} (hg:GOk g fun t=>ev t x) (hf:GOk f fun t=>ev t y):EOk ys fl (eAz fl es z g f) (.az es z x y):=fun cl3 cl t3 t h3 h n k _ hF hH e=>by
 rcases cM_ok (hf _ _ _ hF e) with ⟨a,e2,h2⟩ | ⟨_,_,h2⟩ | h2
 ·have e2:ev t y=.i .i64 (.ofNat a):=e2
  obtain ⟨e3,h3'⟩:=ifA_y h2
  obtain ⟨l,e4,h4⟩:=cLen_ok (hg _ _ _ hF h3')
  have e4:slLen (ev t x)=some l:=e4
  have st:step (.az es z x y) ys cl fl LIM t h n=bf (Nat.beq a 0) (okV (ev t x) h n 172) (bf (Nat.ble l 1048576) (nU (.bad [177]) (rep z a) fun c=>gO (.bad [176]) (chLen c) fun q=>bf (Nat.beq q (Nat.mul a es)) (appC fl es (ev t x) a c h n) (.bad [179])) (.bad [178])):=by
   show gI (.bad [171]) (ev t y) (fun j a=>bf (is64 j) (bf (nonI a) (bf (Nat.ble (natI a) 65536) (gO (.bad [170]) (slLen (ev t x)) fun l=>bf (Nat.beq (natI a) 0) (okV (ev t x) h n 172)
    (bf (Nat.ble l 1048576) (nU (.bad [177]) (rep z (natI a)) fun c=>gO (.bad [176]) (chLen c) fun q=>bf (Nat.beq q (Nat.mul (natI a) es)) (appC fl es (ev t x) (natI a) c h n) (.bad [179])) (.bad [178]))) (.bad [173])) (.bad [174])) (.bad [175]))=_
   rw [e2]
   show bf (Nat.ble a 65536) (gO (SR.bad [170]) (slLen (ev t x)) fun l=>bf (Nat.beq a 0) (okV (ev t x) h n 172)
    (bf (Nat.ble l 1048576) (nU (.bad [177]) (rep z a) fun c=>gO (.bad [176]) (chLen c) fun q=>bf (Nat.beq q (Nat.mul a es)) (appC fl es (ev t x) a c h n) (.bad [179])) (.bad [178]))) (.bad [173])=_
   rw [e3,e4]; rfl
  rw [st]
  rcases ifA_ok h4 with ⟨e5,h5⟩ | ⟨e5,h5⟩
  ·obtain ⟨h6,h7⟩:=cU_ok h5
   refine ⟨_,h,n,h3,?_,hH,h7⟩
   rw [e5]
   exact okV_of h6
  ·obtain ⟨e6,h6⟩:=ifA_y h5
   obtain ⟨h7,h8⟩:=cUv_ok h6
   obtain ⟨q,e7,h9⟩:=cON_ok h8
   obtain ⟨e8,h10⟩:=ifA_y h9
   obtain ⟨v,h',n',e9,h3'',r',h11⟩:=apC_ok hH h10
   refine ⟨v,h',n',h3'',?_,r',h11⟩
   rw [e5,e6]
   show nU (SR.bad [177]) (rep z a) (fun c=>gO (.bad [176]) (chLen c) fun q=>bf (Nat.beq q (Nat.mul a es)) (appC fl es (ev t x) a c h n) (.bad [179]))=_
   rw [nU_of h7,e7]
   show bf (Nat.beq q (Nat.mul a es)) (appC fl es (ev t x) a (rep z a) h n) (.bad [179])=_
   rw [e8]
   exact e9
 ·exact Good.no h2
 ·exact Good.no h2
theorem stL_ok {x c:RV} {k:H3→A} (r:HRel h3 h) (e:Good (stL fl x c h3 k)):∃ h',(∀ n v,v ≠ .un→stSl fl x c h n v=.ok v h' n)∧∃ h3',HRel h3' h'∧Good (k h3'):=by
 rcases cL_ok e with ⟨_,h1⟩ | ⟨b,o,l,q,rfl,h1⟩ | ⟨b,o,l,q,rfl,h1⟩ | ⟨_,_,_,h1⟩
 ·exact Good.no h1
 ·obtain ⟨h',e1,h3',r',h2⟩:=stB_ok r h1
  refine ⟨h',fun n v hv=>?_,h3',r',h2⟩
  show gR (stBlk fl h b o c n) (fun _ h n=>okV v h n 75)=_
  rw [e1]
  exact okV_of hv
 ·obtain ⟨h',e1,h3',r',h2⟩:=stB_ok r h1
  refine ⟨h',fun n v hv=>?_,h3',r',h2⟩
  show gR (stBlk fl h b o c n) (fun _ h n=>okV v h n 75)=_
  rw [e1]
  exact okV_of hv
 ·exact Good.no h1
theorem eCy_ok {es:Nat} {x y:RO} {a b:G3} (ha:GOk a fun t=>ev t x) (hb:GOk b fun t=>ev t y):EOk ys fl (eCy fl es a b) (.cy es x y):=fun cl3 cl t3 t h3 h n k hcl hF hH e=>by
 obtain ⟨p,e1,h1⟩:=cLen_ok (ha _ _ _ hF e)
 obtain ⟨q,e2,h2⟩:=cLen_ok (hb _ _ _ hF h1)
 have e1:slLen (ev t x)=some p:=e1
 have e2:slLen (ev t y)=some q:=e2
 have h4:=frc_ok (r:=bf (Nat.ble q p) q p) (k:=fun q=>ifA (Nat.beq q 0) (k (.i .i64 (.ofNat 0)) h3 n) (slC h3 es (ev t y) q fun c=>stL fl (ev t x) c h3 fun h=>k (.i .i64 (.ofNat q)) h n)) h2
 have st:step (.cy es x y) ys cl fl LIM t h n=bf (Nat.beq (bf (Nat.ble q p) q p) 0) (SR.ok (.i .i64 (Int.ofNat 0)) h n) (nU (SR.bad [79]) (slCells h es (ev t y) (bf (Nat.ble q p) q p)) fun c=>stSl fl (ev t x) c h n (mkI .i64 (Int.ofNat (bf (Nat.ble q p) q p)))):=by
  show gO (SR.bad [77]) (slLen (ev t x)) (fun a=>gO (SR.bad [78]) (slLen (ev t y)) _)=_
  rw [e1,e2]
  rfl
 rw [st]
 rcases ifA_ok h4 with ⟨e3,h5⟩ | ⟨e3,h5⟩
 ·exact ⟨_,h,n,h3,by rw [e3]; rfl,hH,h5⟩
 ·obtain ⟨h6,h7⟩:=slC_ok hH h5
  obtain ⟨h',e4,h3',r',h8⟩:=stL_ok hH h7
  refine ⟨_,h',n,h3',?_,r',h8⟩
  rw [e3]
  show nU (SR.bad [79]) (slCells h es (ev t y) (bf (Nat.ble q p) q p)) (fun c=>stSl fl (ev t x) c h n (mkI .i64 (Int.ofNat (bf (Nat.ble q p) q p))))=_
  rw [nU_of h6,mkI_nat]
  exact e4 _ _ i_un
theorem eCr_ok {z:RV} {x:RO} {a:G3} (ha:GOk a fun t=>ev t x):EOk ys fl (eCr fl z a) (.cr z x):=fun cl3 cl t3 t h3 h n k hcl hF hH e=>by
 obtain ⟨l,e1,h1⟩:=cLen_ok (ha _ _ _ hF e)
 have e1:slLen (ev t x)=some l:=e1
 have st:step (.cr z x) ys cl fl LIM t h n=bf (Nat.beq l 0) (SR.ok (.tup .nil) h n) (nU (SR.bad [85]) (rep z l) fun c=>stSl fl (ev t x) c h n (.tup .nil)):=by
  show gO (SR.bad [84]) (slLen (ev t x)) _=_
  rw [e1]
  rfl
 rw [st]
 rcases ifA_ok h1 with ⟨e3,h5⟩ | ⟨e3,h5⟩
 ·exact ⟨_,h,n,h3,by rw [e3]; rfl,hH,h5⟩
 ·obtain ⟨h6,h7⟩:=cUv_ok h5
  obtain ⟨h',e4,h3',r',h8⟩:=stL_ok hH h7
  refine ⟨_,h',n,h3',?_,r',h8⟩
  rw [e3]
  show nU (SR.bad [85]) (rep z l) (fun c=>stSl fl (ev t x) c h n (.tup .nil))=_
  rw [nU_of h6]
  exact e4 _ _ (by simp)
/-! maps -/
theorem cMp_ok {v:RV} {k:Nat→A} (h:Good (cMp v k)):∃ b,v=.mp b∧Good (k b):=by cases v <;> first | exact ⟨_,rfl,h⟩ | exact Good.no h
theorem sz3_ok {c3:C3} {c:CT} {k:Nat→A} (rc:CRel c3 c) (h:Good (sz3 c3 k)):∃ s,mSize c=some s∧Good (k s):=by
 rcases cM_ok (cget_ok rc h) with ⟨m,e,h1⟩ | ⟨_,_,h1⟩ | h1
 ·refine ⟨m,?_,h1⟩
  unfold mSize
  rw [e]; rfl
 ·exact Good.no h1
 ·exact Good.no h1
theorem fnd3_ok {q:Nat} {c3:C3} {c:CT} {key:RV} {y:Nat→A} {nn:A} (rc:CRel c3 c):∀ s i,Good (fnd3 ys q c3 key y nn s i)→(mFind ys q c key s i=some none∧Good nn) ∨ ∃ j,mFind ys q c key s i=some (some j)∧Good (y j)
 | 0,_,h=>.inl ⟨rfl,h⟩
 | s + 1,i,h=>by
  have h1:Good (frc (Nat.add 1 (Nat.mul 2 i)) fun o=>cget c3 o fun v=>ifA (Nat.beq (kOz v) q) (ifA (kEz ys key v) (y i) (ifA (kNz ys key v) (frc (Nat.succ i) (fnd3 ys q c3 key y nn s)) .no)) .no):=h
  have h2:=cget_ok rc (frc_ok (k:=fun o=>cget c3 o fun v=>ifA (Nat.beq (kOz v) q) (ifA (kEz ys key v) (y i) (ifA (kNz ys key v) (frc (Nat.succ i) (fnd3 ys q c3 key y nn s)) .no)) .no) h1)
  obtain ⟨e1,h3⟩:=ifA_y h2
  have st:mFind ys q c key (s + 1) i=bf (Nat.beq (kOz (cg c (Nat.add 1 (Nat.mul 2 i)))) q) (bf (kEz ys key (cg c (Nat.add 1 (Nat.mul 2 i)))) (some (some i)) (bf (kNz ys key (cg c (Nat.add 1 (Nat.mul 2 i)))) (mFind ys q c key s (Nat.succ i)) none)) none:=rfl
  rw [st,e1,bf_t]
  rcases ifA_ok h3 with ⟨e2,h4⟩ | ⟨e2,h4⟩
  ·rw [e2]; exact .inr ⟨i,rfl,h4⟩
  ·obtain ⟨e3,h5⟩:=ifA_y h4
   rw [e2,e3]; exact fnd3_ok rc s (i + 1) (frc_ok h5)
theorem al3_ok {v:RV} {y:A} (hH:HRel h3 h) (e:Good (al3 fl h3 v y)):alive fl h v=true∧Good y:=by
 by_cases hv:∃ b o,v=.p b o
 ·obtain ⟨b,o,rfl⟩:=hv
  obtain ⟨e1,h1⟩:=ifA_y (show Good (ifA (Nat.ble fl b) (hget h3 b fun bk=>bk .no noM fun _ _=>y) .no) from e)
  obtain ⟨b3,rb,_,h2⟩:=hget_ok hH h1
  obtain ⟨c,z,c3,e2,_,h3,hz⟩:=bkNo rb h2
  refine ⟨?_,h3⟩
  show bf (Nat.ble fl b) (isBk (hg h b)) false=true
  rw [e1,e2]
  show notB (Nat.beq z MAPZ)=true
  cases hq:Nat.beq z MAPZ with
  | false=>rfl
  | true=>exact absurd (Nat.eq_of_beq_eq_true hq) hz
 ·have h0:alive fl h v=true∧al3 fl h3 v y=y:=by
   cases v with
   | p b o=>exact absurd ⟨b,o,rfl⟩ hv
   | _=>exact ⟨rfl,rfl⟩
  rw [h0.2] at e
  exact ⟨h0.1,e⟩
theorem allA3_ok {c3:C3} {c:CT} {y:A} (hH:HRel h3 h) (rc:CRel c3 c):∀ s,Good (allA3 fl h3 c3 y s)→(@Nat.rec (fun _=>Bool) true (fun i ih=>bf (alive fl h (cg c (Nat.add 1 (Nat.mul 2 i)))) ih false) s)=true∧Good y
 | 0,e=>⟨rfl,e⟩
 | s + 1,e=>by
  have h1:Good (frc (Nat.add 1 (Nat.mul 2 s)) fun o=>cget c3 o fun v=>al3 fl h3 v (allA3 fl h3 c3 y s)):=e
  have h2:=cget_ok rc (frc_ok (k:=fun o=>cget c3 o fun v=>al3 fl h3 v (allA3 fl h3 c3 y s)) h1)
  obtain ⟨e1,h4⟩:=al3_ok hH h2
  obtain ⟨e2,h5⟩:=allA3_ok hH rc s h4
  refine ⟨?_,h5⟩
  show bf (alive fl h (cg c (Nat.add 1 (Nat.mul 2 s)))) _ false=true
  rw [e1]
  exact e2
theorem mo3_ok {q:Nat} {key:RV} {c3:C3} {c:CT} {s:Nat} {y:A} (hH:HRel h3 h) (rc:CRel c3 c) (e:Good (mo3 q fl h3 key c3 s y)):mOk q fl h key c s=true∧Good y:=by
 unfold mo3 at e
 rcases ifA_ok e with ⟨e1,h1⟩ | ⟨e1,h1⟩
 ·obtain ⟨e2,h2⟩:=al3_ok hH h1
  obtain ⟨e3,h3⟩:=allA3_ok hH rc s h2
  refine ⟨?_,h3⟩
  show bf (Nat.beq q 12) (bf (alive fl h key) _ false) true=true
  rw [e1,e2]
  exact e3
 ·refine ⟨?_,h1⟩
  show bf (Nat.beq q 12) _ true=true
  rw [e1]; rfl
theorem ePq_ok {neg:Bool} {x y:RO} {f g:G3} (hf:GOk f fun t=>ev t x) (hg0:GOk g fun t=>ev t y):EOk ys fl (ePq fl neg f g) (.pq neg x y):=fun cl3 cl t3 t h3 h n k _ hF hH e=>by
 obtain ⟨e1,h1⟩:=ifA_y (hg0 _ _ _ hF (hf _ _ _ hF e))
 obtain ⟨e2,h2⟩:=ifA_y h1
 obtain ⟨e3,h4⟩:=al3_ok hH h2
 obtain ⟨e4,h5⟩:=al3_ok hH h4
 have h6:=mkBk_ok (k:=fun v=>k v h3 n) h5
 refine ⟨_,h,n,h3,?_,hH,h6⟩
 show bf (bf (Nat.beq (kOf (ev t x)) 12) (bf (Nat.beq (kOf (ev t y)) 12) (bf (alive fl h (ev t x)) (alive fl h (ev t y)) false) false) false) _ _=_
 rw [show Nat.beq (kOf (ev t x)) 12=true from e1,show Nat.beq (kOf (ev t y)) 12=true from e2,show alive fl h (ev t x)=true from e3,show alive fl h (ev t y)=true from e4]
 rfl
theorem eMk_ok:EOk ys fl eMk .mk:=fun cl3 cl t3 t h3 h n k _ hF hH e=>by
 obtain ⟨_,g,h1,h2⟩:=cupd_ok ce3_ok e
 obtain ⟨c3,rc,h4⟩:=h2 _ h1
 obtain ⟨_,b3,g',_,h5,h6⟩:=hupd_ok hH h4
 obtain ⟨h3',r',h7⟩:=h6 (mpB c3) (.bk (cst ce (.i .i64 (.ofNat 0)) 0) MAPZ) (.inr ⟨rfl,c3,rfl,rc⟩) h5
 refine ⟨.mp n,_,_,h3',?_,r',frc_ok (k:=fun m=>k (.mp n) h3' m) h7⟩
 show fT (cst ce (.i .i64 (.ofNat 0)) 0) (fun cs=>fT (hst h (.bk cs MAPZ) n) fun h=>SR.ok (.mp n) h (Nat.succ n))=_
 rw [fT_id,fT_id]
theorem mlK_ok {two:Bool} {x:RV} {b:Bool} {k:KV} (h1:Good (mlK two x b h3 n k)):x ≠ .un∧Good (k (bf two (.tup (.cons x (.cons (.b b) .nil))) x) h3 n):=by
 obtain ⟨hx,h2⟩:=cU_ok h1
 rcases ifA_ok h2 with ⟨rfl,h4⟩ | ⟨rfl,h4⟩ <;> exact ⟨hx,h4⟩
theorem eMl_ok {q:Nat} {z:RV} {two:Bool} {mo ko:RO} {f g:G3} (hf:GOk f fun t=>ev t mo) (hg0:GOk g fun t=>ev t ko):EOk ys fl (eMl ys fl q z two f g) (.ml q z two mo ko):=fun cl3 cl t3 t h3 h n k _ hF hH e=>by
 obtain ⟨b,e1,h1⟩:=cMp_ok (hf _ _ _ hF e)
 have e1:ev t mo=.mp b:=e1
 obtain ⟨ek,h2⟩:=ifA_y (hg0 _ _ _ hF h1)
 obtain ⟨b3,rb,hb,h4⟩:=hget_ok hH h2
 obtain ⟨c,c3,e2,rc,h5⟩:=bkMp rb h4
 obtain ⟨s,e3,h6⟩:=sz3_ok rc h5
 obtain ⟨em,h6⟩:=mo3_ok hH rc h6
 have em:mOk q fl h (ev t ko) c s=true:=em
 have st:step (.ml q z two mo ko) ys cl fl LIM t h n=gO (SR.bad [144]) (mFind ys q c (ev t ko) s 0) fun x=>mRes two z c h n x:=by
  show gM (SR.bad [140]) (ev t mo) (fun b=>bf (Nat.ble (Nat.succ b) LIM) (gMK (.bad [141]) (hg h b) fun cs=>gO (.bad [142]) (mSize cs) fun s=>
   bf (bf (mOk q fl h (ev t ko) cs s) (Nat.beq (kOz (ev t ko)) q) false) (gO (.bad [144]) (mFind ys q cs (ev t ko) s 0) fun x=>mRes two z cs h n x) (.bad [143])) (.bad [145]))=_
  rw [e1]
  show bf (Nat.ble (Nat.succ b) LIM) (gMK (SR.bad [141]) (hg h b) fun cs=>gO (.bad [142]) (mSize cs) fun s=>
   bf (bf (mOk q fl h (ev t ko) cs s) (Nat.beq (kOz (ev t ko)) q) false) (gO (.bad [144]) (mFind ys q cs (ev t ko) s 0) fun x=>mRes two z cs h n x) (.bad [143])) (.bad [145])=_
  rw [Nat.ble_eq_true_of_le (show Nat.succ b≤LIM by unfold LIM; omega),e2,bf_t,gMK_bk,e3]
  show bf (bf (mOk q fl h (ev t ko) c s) (Nat.beq (kOz (ev t ko)) q) false) _ _=_
  rw [em,show Nat.beq (kOz (ev t ko)) q=true from ek]
  rfl
 rw [st]
 rcases fnd3_ok rc s 0 h6 with ⟨e4,h7⟩ | ⟨j,e4,h7⟩
 ·obtain ⟨hx,h8⟩:=mlK_ok h7
  refine ⟨_,h,n,h3,?_,hH,h8⟩
  rw [e4]
  show nU (SR.bad [139]) z _=_
  rw [nU_of hx]
  cases two <;> rfl
 ·obtain ⟨hx,h8⟩:=mlK_ok (cget_ok rc (frc_ok (k:=fun o=>cget c3 o fun v=>mlK two v true h3 n k) h7))
  refine ⟨_,h,n,h3,?_,hH,h8⟩
  rw [e4]
  show nU (SR.bad [139]) (cg c (Nat.add 2 (Nat.mul 2 j))) _=_
  rw [nU_of hx]
  cases two <;> rfl
theorem eMi_ok {q:Nat} {mo ko xo:RO} {f g p:G3} (hf:GOk f fun t=>ev t mo) (hg0:GOk g fun t=>ev t ko) (hp:GOk p fun t=>ev t xo):EOk ys fl (eMi ys fl q f g p) (.mi q mo ko xo):=fun cl3 cl t3 t h3 h n k _ hF hH e=>by
 obtain ⟨b,e1,h1⟩:=cMp_ok (hf _ _ _ hF e)
 have e1:ev t mo=.mp b:=e1
 obtain ⟨hku,h1⟩:=cU_ok (hp _ _ _ hF (hg0 _ _ _ hF h1))
 obtain ⟨hxu,h1⟩:=cU_ok h1
 have hku:ev t ko ≠ .un:=hku
 have hxu:ev t xo ≠ .un:=hxu
 obtain ⟨ek,h1⟩:=ifA_y h1
 obtain ⟨el,h2⟩:=ifA_y h1
 obtain ⟨_,b3,w,rb,h4,h5⟩:=hupd_ok hH h2
 obtain ⟨c,c3,e2,rc,h6⟩:=bkMp rb h4
 obtain ⟨s,e3,h7⟩:=sz3_ok rc h6
 obtain ⟨es,h8⟩:=ifA_y h7
 obtain ⟨em,h8⟩:=mo3_ok hH rc h8
 have em:mOk q fl h (ev t ko) c s=true:=em
 have st:step (.mi q mo ko xo) ys cl fl LIM t h n=gO (SR.bad [134]) (mFind ys q c (ev t ko) s 0) fun x=>SR.ok .ud (hst h (.bk (mSet c (ev t ko) (ev t xo) s x) MAPZ) b) n:=by
  show gM (SR.bad [130]) (ev t mo) (fun b=>bf (Nat.ble fl b) (gMK (.bad [131]) (hg h b) fun cs=>gO (.bad [132]) (mSize cs) fun s=>bf (Nat.ble s 65536)
   (bf (bf (mOk q fl h (ev t ko) cs s) (Nat.beq (kOz (ev t ko)) q) false) (gO (.bad [134]) (mFind ys q cs (ev t ko) s 0) fun x=>nU (.bad [135]) (ev t xo) fun v=>nU (.bad [136]) (ev t ko) fun key=>fT (mSet cs key v s x) fun cs=>fT (hst h (.bk cs MAPZ) b) fun h=>.ok .ud h n) (.bad [133])) (.bad [137])) (.bad [138]))=_
  rw [e1]
  show bf (Nat.ble fl b) (gMK (SR.bad [131]) (hg h b) fun cs=>gO (.bad [132]) (mSize cs) fun s=>bf (Nat.ble s 65536)
   (bf (bf (mOk q fl h (ev t ko) cs s) (Nat.beq (kOz (ev t ko)) q) false) (gO (.bad [134]) (mFind ys q cs (ev t ko) s 0) fun x=>nU (.bad [135]) (ev t xo) fun v=>nU (.bad [136]) (ev t ko) fun key=>fT (mSet cs key v s x) fun cs=>fT (hst h (.bk cs MAPZ) b) fun h=>.ok .ud h n) (.bad [133])) (.bad [137])) (.bad [138])=_
  rw [el,e2,bf_t,gMK_bk,e3]
  show bf (Nat.ble s 65536) (bf (bf (mOk q fl h (ev t ko) c s) (Nat.beq (kOz (ev t ko)) q) false) _ _) _=_
  rw [es,em,show Nat.beq (kOz (ev t ko)) q=true from ek,bf_t,bf_t,bf_t]
  have hx:(fun x=>nU (SR.bad [135]) (ev t xo) fun v=>nU (SR.bad [136]) (ev t ko) fun key=>fT (mSet c key v s x) fun cs=>fT (hst h (.bk cs MAPZ) b) fun h=>SR.ok .ud h n)=fun x=>SR.ok .ud (hst h (.bk (mSet c (ev t ko) (ev t xo) s x) MAPZ) b) n:=funext fun x=>by
   rw [nU_of hxu,nU_of hku,fT_id,fT_id]
  exact congrArg (gO (SR.bad [134]) (mFind ys q c (ev t ko) s 0)) hx
 rw [st]
 rcases fnd3_ok rc s 0 h8 with ⟨e4,h9⟩ | ⟨j,e4,h9⟩
 ·obtain ⟨_,g1,k1,k2⟩:=cupd_ok rc (frc_ok (k:=fun o=>cupd c3 o (fun _ g=>g (ev t ko)) fun c=>frc (Nat.add 2 (Nat.mul 2 s)) fun o=>cupd c o (fun _ g=>g (ev t xo)) fun c=>frc (Nat.succ s) fun s=>cupd c 0 (fun _ g=>g (.i .i64 (.ofNat s))) fun c=>w (mpB c)) h9)
  obtain ⟨c4,rc4,k3⟩:=k2 _ k1
  obtain ⟨_,g2,k4,k5⟩:=cupd_ok rc4 (frc_ok (k:=fun o=>cupd c4 o (fun _ g=>g (ev t xo)) fun c=>frc (Nat.succ s) fun s=>cupd c 0 (fun _ g=>g (.i .i64 (.ofNat s))) fun c=>w (mpB c)) k3)
  obtain ⟨c5,rc5,k6⟩:=k5 _ k4
  obtain ⟨_,g3,k7,k8⟩:=cupd_ok rc5 (frc_ok (k:=fun s=>cupd c5 0 (fun _ g=>g (.i .i64 (.ofNat s))) fun c=>w (mpB c)) k6)
  obtain ⟨c6,rc6,k9⟩:=k8 _ k7
  obtain ⟨h3',r',k10⟩:=h5 (mpB c6) (.bk _ MAPZ) (.inr ⟨rfl,c6,rfl,rc6⟩) k9
  refine ⟨_,_,n,h3',?_,r',k10⟩
  rw [e4]
  show SR.ok .ud (hst h (.bk (fT _ _) MAPZ) b) n=_
  rw [fT_id,fT_id]
 ·obtain ⟨_,g1,k1,k2⟩:=cupd_ok rc (frc_ok (k:=fun o=>cupd c3 o (fun _ g=>g (ev t xo)) fun c=>w (mpB c)) h9)
  obtain ⟨c4,rc4,k3⟩:=k2 _ k1
  obtain ⟨h3',r',k10⟩:=h5 (mpB c4) (.bk _ MAPZ) (.inr ⟨rfl,c4,rfl,rc4⟩) k3
  refine ⟨_,_,n,h3',?_,r',k10⟩
  rw [e4]
  rfl
theorem ow_ok (o:RP):OwOk ys fl (ow ys fl o) o:=by
 cases o with
 | mv x=>exact show OwOk ys fl (g1 x fun x=>.p (pMv x)) (.mv x) from g1_ok (ys:=ys) (fl:=fl) fun g hg=>pMv_ok hg
 | pick c a b=>exact show OwOk ys fl (g1 c fun c=>g2 a b fun a b=>.p (pPick c a b)) (.pick c a b) from g1_ok (ys:=ys) (fl:=fl) fun g hg=>g2_ok fun p q hp hq=>pPick_ok hg hp hq
 | al z=>exact eAl_ok
 | bx x=>exact show OwOk ys fl (g1 x fun x=>.e (eBx x)) (.bx x) from g1_ok (ys:=ys) (fl:=fl) fun g hg=>eBx_ok hg
 | bd z ps=>
  show OwOk ys fl (nU .no z fun z=>gfl ps fun f=>.p (pBd z f)) (.bd z ps)
  by_cases hz:z=.un
  ·subst hz; trivial
  ·rw [nU_of hz]; exact gfl_ok fun f hf=>pBd_ok hz hf
 | bs z len ps=>
  show OwOk ys fl (nU .no z fun z=>gfl ps fun f=>.e (eBs z len f)) (.bs z len ps)
  by_cases hz:z=.un
  ·subst hz; trivial
  ·rw [nU_of hz]; exact gfl_ok fun f hf=>eBs_ok hz hf
 | ld g m a=>exact show OwOk ys fl (g1 a fun a=>.e (eLd g m a)) (.ld g m a) from g1_ok (ys:=ys) (fl:=fl) fun g hg=>eLd_ok hg
 | st m a v=>exact show OwOk ys fl (g2 a v fun a v=>.e (eSt fl m a v)) (.st m a v) from g2_ok fun p q hp hq=>eSt_ok hp hq
 | nc x=>exact show OwOk ys fl (g1 x fun x=>.p (pNc x)) (.nc x) from g1_ok (ys:=ys) (fl:=fl) fun g hg=>pNc_ok hg
 | bn op x y=>exact show OwOk ys fl (g2 x y fun x y=>.p (pBin (binW ys op) x y)) (.bn op x y) from g2_ok fun p q hp hq=>pBin_ok (binW_ok op) hp hq
 | bq neg x y=>exact show OwOk ys fl (g2 x y fun x y=>.p (pBq neg x y)) (.bq neg x y) from g2_ok fun p q hp hq=>pBq_ok hp hq
 | nq kd neg x y=>exact show OwOk ys fl (g2 x y fun x y=>.p (pNq kd neg x y)) (.nq kd neg x y) from g2_ok fun p q hp hq=>pNq_ok hp hq
 | ng x=>exact show OwOk ys fl (g1 x fun x=>.p (pNg x)) (.ng x) from g1_ok (ys:=ys) (fl:=fl) fun g hg=>pNg_ok hg
 | nt x=>exact show OwOk ys fl (g1 x fun x=>.p (pNt x)) (.nt x) from g1_ok (ys:=ys) (fl:=fl) fun g hg=>pNt_ok hg
 | cv k x=>exact show OwOk ys fl (g1 x fun x=>.p (pCv (cvF k) x)) (.cv k x) from g1_ok (ys:=ys) (fl:=fl) fun g hg=>pCv_ok hg
 | mf f cs=>exact show OwOk ys fl (gl cs fun c=>.p (pMf f c)) (.mf f cs) from gl_ok fun g hg=>pMf_ok hg
 | ms z l c=>exact show OwOk ys fl (g2 l c fun l c=>.e (eMs z l c)) (.ms z l c) from g2_ok fun p q hp hq=>eMs_ok hp hq
 | sc es x lo hi mx=>
  cases mx with
  | none=>exact show OwOk ys fl (g1 x fun x=>n1 lo fun lo=>n1 hi fun hi=>.p (pSc es x lo hi)) (.sc es x lo hi none) from g1_ok (ys:=ys) (fl:=fl) fun g hg=>n1_ok fun a ha=>n1_ok fun b hb=>pSc_ok hg ha hb
  | some m=>exact show OwOk ys fl (g1 x fun x=>n1 lo fun lo=>n1 hi fun hi=>n1 (some m) fun m=>.p (pSc3 es x lo hi m)) (.sc es x lo hi (some m)) from g1_ok (ys:=ys) (fl:=fl) fun g hg=>n1_ok fun a ha=>n1_ok fun b hb=>n1_ok fun d hd=>pSc3_ok hg ha hb hd
 | ss x lo hi=>exact show OwOk ys fl (g1 x fun x=>n1 lo fun lo=>n1 hi fun hi=>.p (pSs x lo hi)) (.ss x lo hi) from g1_ok (ys:=ys) (fl:=fl) fun g hg=>n1_ok fun a ha=>n1_ok fun b hb=>pSs_ok hg ha hb
 | sa m es x lo hi=>exact show OwOk ys fl (g1 x fun x=>n1 lo fun lo=>n1 hi fun hi=>.p (pSa m es x lo hi)) (.sa m es x lo hi) from g1_ok (ys:=ys) (fl:=fl) fun g hg=>n1_ok fun a ha=>n1_ok fun b hb=>pSa_ok hg ha hb
 | fa off x=>exact show OwOk ys fl (g1 x fun x=>.p (pFa off x)) (.fa off x) from g1_ok (ys:=ys) (fl:=fl) fun g hg=>pFa_ok hg
 | fd g off m x=>exact show OwOk ys fl (g1 x fun x=>.p (pFd g off m x)) (.fd g off m x) from g1_ok (ys:=ys) (fl:=fl) fun g hg=>pFd_ok hg
 | ia es x i=>exact show OwOk ys fl (g2 x i fun x i=>.p (pIa es x i)) (.ia es x i) from g2_ok fun p q hp hq=>pIa_ok hp hq
 | ip m es x i=>exact show OwOk ys fl (g2 x i fun x i=>.p (pIp m es x i)) (.ip m es x i) from g2_ok fun p q hp hq=>pIp_ok hp hq
 | ix g m es x i=>exact show OwOk ys fl (g2 x i fun x i=>.p (pIx g m es x i)) (.ix g m es x i) from g2_ok fun p q hp hq=>pIx_ok hp hq
 | sx x i=>exact show OwOk ys fl (g2 x i fun x i=>.p (pSx x i)) (.sx x i) from g2_ok fun p q hp hq=>pSx_ok hp hq
 | ex k x=>exact show OwOk ys fl (g1 x fun x=>.p (pEx k x)) (.ex k x) from g1_ok (ys:=ys) (fl:=fl) fun g hg=>pEx_ok hg
 | cl f as=>exact show OwOk ys fl (gl as fun c=>.e (eCl f c)) (.cl f as) from gl_ok fun g hg=>eCl_ok hg
 | cf x as=>exact show OwOk ys fl (g1 x fun x=>gl as fun c=>.e (eCf x c)) (.cf x as) from g1_ok (ys:=ys) (fl:=fl) fun a ha=>gl_ok fun g hg=>eCf_ok ha hg
 | ln st x=>
  cases st with
  | true=>exact show OwOk ys fl (g1 x fun x=>.p (pLnS x)) (.ln true x) from g1_ok (ys:=ys) (fl:=fl) fun g hg=>pLnS_ok hg
  | false=>exact show OwOk ys fl (g1 x fun x=>.p (pLn x)) (.ln false x) from g1_ok (ys:=ys) (fl:=fl) fun g hg=>pLn_ok hg
 | cp x=>exact show OwOk ys fl (g1 x fun x=>.p (pCp x)) (.cp x) from g1_ok (ys:=ys) (fl:=fl) fun g hg=>pCp_ok hg
 | ap es x y=>exact show OwOk ys fl (g2 x y fun x y=>.e (eAp fl es x y)) (.ap es x y) from g2_ok fun p q hp hq=>eAp_ok hp hq
 | cy es x y=>exact show OwOk ys fl (g2 x y fun x y=>.e (eCy fl es x y)) (.cy es x y) from g2_ok fun p q hp hq=>eCy_ok hp hq
 | mm mx x y=>exact show OwOk ys fl (g2 x y fun x y=>.p (pMm mx x y)) (.mm mx x y) from g2_ok fun p q hp hq=>pMm_ok hp hq
 | se ks neg x y=>exact show OwOk ys fl (g2 x y fun x y=>.p (pSe ys ks neg x y)) (.se ks neg x y) from g2_ok fun p q hp hq=>pSe_ok hp hq
 | mk=>exact eMk_ok
 | ta ty z two x=>exact show OwOk ys fl (g1 x fun x=>.p (pTa ty z two x)) (.ta ty z two x) from g1_ok (ys:=ys) (fl:=fl) fun g hg=>pTa_ok hg
 | pq neg x y=>exact show OwOk ys fl (g2 x y fun x y=>.e (ePq fl neg x y)) (.pq neg x y) from g2_ok fun p q hp hq=>ePq_ok hp hq
 | b2 b x=>exact show OwOk ys fl (g1 x fun x=>.e (eB2 b x)) (.b2 b x) from g1_ok (ys:=ys) (fl:=fl) fun g hg=>eB2_ok hg
 | iv l x as=>exact show OwOk ys fl (g1 x fun x=>gl as fun c=>.e (eIv l x c)) (.iv l x as) from g1_ok (ys:=ys) (fl:=fl) fun a ha=>gl_ok fun g hg=>eIv_ok ha hg
 | az es z x y=>exact show OwOk ys fl (g2 x y fun x y=>.e (eAz fl es z x y)) (.az es z x y) from g2_ok fun p q hp hq=>eAz_ok hp hq
 | fg=>exact show EOk ys fl eFg .fg from fun _ _ _ _ _ h n _ _ _ hH e=>⟨.un,h,n,_,rfl,hH,e⟩
 | mi q m k x=>exact show OwOk ys fl (g1 m fun m=>g2 k x fun k x=>.e (eMi ys fl q m k x)) (.mi q m k x) from g1_ok (ys:=ys) (fl:=fl) fun g hg=>g2_ok fun p q hp hq=>eMi_ok hg hp hq
 | ml q z two m k=>exact show OwOk ys fl (g2 m k fun m k=>.e (eMl ys fl q z two m k)) (.ml q z two m k) from g2_ok fun p q hp hq=>eMl_ok hp hq
 | cr z x=>exact show OwOk ys fl (g1 x fun x=>.e (eCr fl z x)) (.cr z x) from g1_ok (ys:=ys) (fl:=fl) fun g hg=>eCr_ok hg
end
end Go.Rn
namespace Go.Rn
attribute [local irreducible] HT10 CT9 RelC9 RelH10
section
variable {ys:Ys} {fl:Nat}
theorem dstW_ok (d:D):∃ s,dstW d=.mk s∧SOk s fun t v=>put t d v:=by
 cases d with
 | no=>exact ⟨_,rfl,fun t3 t v c hF h=>⟨t3,hF,h⟩⟩
 | d p=>exact setP_ok p
def RunOk (ys:Ys) (fl:Nat) (r:Kt→Kt) (d:D) (o:RP):Prop:=∀ nx cl3 cl t3 t h3 h n,ClSim fl cl3 cl→FR t3 t→HRel h3 h→Good (r nx cl3 t3 h3 n) →
 ∃ v h' n' t3' h3',step o ys cl fl LIM t h n=.ok v h' n'∧FR t3' (put t d v)∧HRel h3' h'∧Good (nx cl3 t3' h3' n')
theorem qP_ok {f:P3} {s:S3} {d:D} {o:RP} (hf:POk ys f o) (hs:SOk s fun t v=>put t d v):RunOk ys fl (qP f s) d o:=fun nx cl3 cl t3 t h3 h n _ hF hH e=>by
 obtain ⟨v,e1,h1⟩:=hf _ _ _ hF e
 obtain ⟨t3',hF',h2⟩:=hs _ _ _ _ hF h1
 exact ⟨v,h,n,t3',h3,e1 _ _ _ _ _,hF',hH,h2⟩
theorem qE_ok {f:E3} {s:S3} {d:D} {o:RP} (hf:EOk ys fl f o) (hs:SOk s fun t v=>put t d v):RunOk ys fl (qE f s) d o:=fun nx cl3 cl t3 t h3 h n hc hF hH e=>by
 obtain ⟨v,h',n',h3',e1,hH',h1⟩:=hf _ _ _ _ _ _ _ _ hc hF hH e
 obtain ⟨t3',hF',h2⟩:=hs _ _ _ _ hF h1
 exact ⟨v,h',n',t3',h3',e1,hF',hH',h2⟩
def L1Ok (ys:Ys) (fl:Nat) (f:Kt→Kt) (q:RQ):Prop:=∀ nx cl3 cl t3 t h3 h n,ClSim fl cl3 cl→FR t3 t→HRel h3 h→Good (f nx cl3 t3 h3 n) →
 ∃ t' h' n' t3' h3',(∀ ih:Bd,opsQ q ys cl fl ih t h n=ih t' h' n')∧FR t3' t'∧HRel h3' h'∧Good (nx cl3 t3' h3' n')
def LwOk (w:Lw) (p:(Kt→Kt)→Prop):Prop:=match w with | .mk f=>p f | .no=>True
theorem opsY {d:D} {g:G} {k:K3} {o:RP} {cl:Cl'} {ih:Bd} {t:FT} {h h':HT} {n n':Nat} {v:RV} (hw:want t g=.y) (e:step o ys cl fl LIM t h n=.ok v h' n'):opsQ (.q d g k o) ys cl fl ih t h n=ih (put t d v) h' n':=by
 show opsW ys cl fl d o ih t h n (want t g)=_
 rw [hw]
 show opsOk d t (step o ys cl fl LIM t h n) ih=_
 rw [e]
 show fT (put t d v) (fun t=>ih t h' n')=_
 rw [fT_id]
theorem opsN {d:D} {g:G} {k:K3} {o:RP} {cl:Cl'} {ih:Bd} {t:FT} {h:HT} {n:Nat} (hw:want t g=.n):opsQ (.q d g k o) ys cl fl ih t h n=ih (put t d .ud) h n:=by
 show opsW ys cl fl d o ih t h n (want t g)=_
 rw [hw]
 show fT (put t d .ud) (fun t=>ih t h n)=_
 rw [fT_id]
theorem want_ok {p:Pa} {w:Bool} {t:FT} {y n:A} (h:Good (cG (tg t p) w y n)):(want t (.g p w)=.y∧Good y) ∨ (want t (.g p w)=.n∧Good n):=by
 have e:want t (.g p w)=match tg t p with | .b x=>bf (eqB x w) .y .n | .ud=>.n | _=>.u:=rfl
 rcases cG_ok h with ⟨x,e1,e2,h1⟩ | ⟨x,e1,e2,h1⟩ | ⟨e1,h1⟩
 ·left; rw [e,e1]; refine ⟨?_,h1⟩; show bf (eqB x w) W3.y .n=.y; rw [e2]; rfl
 ·right; rw [e,e1]; refine ⟨?_,h1⟩; show bf (eqB x w) W3.y .n=.n; rw [e2]; rfl
 ·right; rw [e,e1]; exact ⟨rfl,h1⟩
theorem gdW_ok {g:G} {d:D} {k:K3} {o:RP} {r:Kt→Kt} {s:S3} (hr:RunOk ys fl r d o) (hs:SOk s fun t v=>put t d v):LwOk (gdW g r (qS s)) fun f=>L1Ok ys fl f (.q d g k o):=by
 cases g with
 | no=>
  exact fun nx cl3 cl t3 t h3 h n hc hF hH e=>by
   obtain ⟨v,h',n',t3',h3',e1,hF',hH',h1⟩:=hr _ _ _ _ _ _ _ _ hc hF hH e
   exact ⟨_,h',n',t3',h3',fun ih=>opsY rfl e1,hF',hH',h1⟩
 | g p w=>
  obtain ⟨g,e0,hg⟩:=getP_ok p
  show LwOk (@Gw.rec (fun _=>Lw) (fun g=>.mk (gdK g w r (qS s))) (getK (Nat.sub (Pa.val p) 1))) _
  rw [e0]
  exact fun nx cl3 cl t3 t h3 h n hc hF hH e=>by
   rcases want_ok (hg _ _ _ hF e) with ⟨e1,h1⟩ | ⟨e1,h1⟩
   ·obtain ⟨v,h',n',t3',h3',e2,hF',hH',h2⟩:=hr _ _ _ _ _ _ _ _ hc hF hH h1
    exact ⟨_,h',n',t3',h3',fun ih=>opsY e1 e2,hF',hH',h2⟩
   ·obtain ⟨t3',hF',h2⟩:=hs _ _ _ _ hF h1
    exact ⟨_,h,n,t3',h3,fun ih=>opsN e1,hF',hH,h2⟩
theorem lw1_ok (q:RQ):LwOk (lw1 ys fl q) fun f=>L1Ok ys fl f q:=by
 obtain ⟨d,g,k,o⟩:=q
 obtain ⟨s,e1,hs⟩:=dstW_ok d
 show LwOk (@Sw.rec (fun _=>Lw) (fun s=>@Ow'.rec F3 H3 (fun _=>Lw) (fun f=>gdW g (qP f s) (qS s)) (fun f=>gdW g (qE f s) (qS s)) .no (ow ys fl o)) (dstW d)) _
 rw [e1]
 have ho:=ow_ok (ys:=ys) (fl:=fl) o
 show LwOk (@Ow'.rec F3 H3 (fun _=>Lw) (fun f=>gdW g (qP f s) (qS s)) (fun f=>gdW g (qE f s) (qS s)) .no (ow ys fl o)) _
 revert ho
 cases ow ys fl o with
 | p f=>exact fun ho=>gdW_ok (qP_ok ho hs) hs
 | e f=>exact fun ho=>gdW_ok (qE_ok ho hs) hs
 | no=>exact fun _=>trivial
def LOk (ys:Ys) (fl:Nat) (f:Kt→Kt) (l:List RQ):Prop:=∀ nx cl3 cl t3 t h3 h n,ClSim fl cl3 cl→FR t3 t→HRel h3 h→Good (f nx cl3 t3 h3 n) →
 ∃ t' h' n' t3' h3',ops ys cl fl l t h n=.nx t' h' n'∧FR t3' t'∧HRel h3' h'∧Good (nx cl3 t3' h3' n')
theorem lw_ok:∀ l,LwOk (lw ys fl l) fun f=>LOk ys fl f l
 | []=>fun nx cl3 cl t3 t h3 h n _ hF hH e=>⟨t,h,n,t3,h3,rfl,hF,hH,e⟩
 | q::l=>by
  have h1:=lw1_ok (ys:=ys) (fl:=fl) q
  have h2:=lw_ok l
  show LwOk (@Lw'.rec F3 H3 (fun _=>Lw) (fun a=>@Lw'.rec F3 H3 (fun _=>Lw) (fun b=>.mk (fun nx=>a (b nx))) .no (lw ys fl l)) .no (lw1 ys fl q)) _
  revert h1
  cases lw1 ys fl q with
  | no=>exact fun _=>trivial
  | mk a=>
   intro h1
   show LwOk (@Lw'.rec F3 H3 (fun _=>Lw) (fun b=>.mk (fun nx=>a (b nx))) .no (lw ys fl l)) _
   revert h2
   cases lw ys fl l with
   | no=>exact fun _=>trivial
   | mk b=>
    intro h2 nx cl3 cl t3 t h3 h n hc hF hH e
    obtain ⟨t',h',n',t3',h3',e1,hF',hH',h4⟩:=h1 _ _ _ _ _ _ _ _ hc hF hH e
    obtain ⟨t2,h2',n2,t32,h32,e2,hF2,hH2,h5⟩:=h2 _ _ _ _ _ _ _ _ hc hF' hH' h4
    exact ⟨t2,h2',n2,t32,h32,(e1 _).trans e2,hF2,hH2,h5⟩
/-! regions that draw -/
def HsRel:List H3→List HT→Prop
 | [],[]=>True
 | a::l,b::r=>HRel a b∧HsRel l r
 | _,_=>False
theorem HsRel.length:∀ {a:List H3} {b:List HT},HsRel a b→a.length=b.length
 | [],[],_=>rfl
 | _::a,_::b,h=>by simp [HsRel.length h.2]
 | [],_::_,h=>h.elim
 | _::_,[],h=>h.elim
theorem ck1_ok {c:CK} {h3:H3} {h:HT} {j:Nat} {y:A} (hH:HRel h3 h) (e:Good (ck1 c h3 j y)):ckIn h j c=true∧Good y:=by
 obtain ⟨p,q,b,o,g,m,v⟩:=c
 show bf (Nat.ble p j) (bf (Nat.ble j q) (gK false (hg h b) fun cs _=>eqV (rdV g m cs o) v) true) true=true∧Good y
 rcases ifA_ok e with ⟨e1,h1⟩ | ⟨e1,h1⟩
 ·rw [e1]
  rcases ifA_ok h1 with ⟨e2,h2⟩ | ⟨e2,h2⟩
  ·rw [e2]
   obtain ⟨cs,z,c3,e3,rc,_,h4,hmz⟩:=hgetB hH h2
   obtain ⟨_,_,h5⟩:=rdA_ok rc h4
   obtain ⟨e4,h6⟩:=ifA_y h5
   rw [e3,bf_t,bf_t,gK_bk hmz]
   exact ⟨e4,h6⟩
  ·rw [e2]; exact ⟨rfl,h2⟩
 ·rw [e1]; exact ⟨rfl,h1⟩
theorem ckA_ok {h3:H3} {h:HT} {j:Nat} {y:A} (hH:HRel h3 h):∀ {l:List CK},Good (ckA l h3 j y)→ckAll l h j=true∧Good y
 | [],e=>⟨rfl,e⟩
 | c::l,e=>by
  obtain ⟨e1,h1⟩:=ck1_ok (y:=ckA l h3 j y) hH e
  obtain ⟨e2,h2⟩:=ckA_ok hH h1
  refine ⟨?_,h2⟩
  show bf (ckIn h j c) (ckAll l h j) false=true
  rw [e1,e2]; rfl
theorem ckO_ok {l:List CK} {y:A}:∀ {a:List H3} {b:List HT},HsRel a b→Good (ckO a l y)→ckOver b l=true∧Good y
 | [],[],_,e=>⟨rfl,e⟩
 | x::a,z::b,r,e=>by
  obtain ⟨e1,h1⟩:=ckA_ok (y:=ckO a l y) r.1 e
  obtain ⟨e2,h2⟩:=ckO_ok r.2 h1
  refine ⟨?_,h2⟩
  show bf (ckAll l z b.length) (ckOver b l) false=true
  rw [← r.2.length,e1,e2]; rfl
 | [],_::_,r,_=>r.elim
 | _::_,[],r,_=>r.elim
theorem ckOver_nil:∀ b:List HT,ckOver b []=true
 | []=>rfl
 | _::b=>ckOver_nil b
theorem ckT_ok {l:List CK} {y:A} {a:List H3} {b:List HT} (r:HsRel a b) (e:Good (ckT a l y)):ckOver b l=true∧Good y:=by
 cases l with
 | nil=>exact ⟨ckOver_nil b,e⟩
 | cons c l=>exact ckO_ok r e
def D1Ok (ys:Ys) (fl:Nat) (f:Kd→Kd) (q:RQ):Prop:=∀ nx n0 cs hs3 hs cl3 cl t3 t h3 h n,ClSim fl cl3 cl→FR t3 t→HRel h3 h→HsRel hs3 hs→Good (f nx n0 cs hs3 cl3 t3 h3 n) →
 ∃ t' h' n' cs' hs' t3' h3' hs3',(∀ ih:Dd,dQ q ys cl fl n0 ih t h n cs hs=ih t' h' n' cs' hs')∧FR t3' t'∧HRel h3' h'∧HsRel hs3' hs'∧Good (nx n0 cs' hs3' cl3 t3' h3' n')
def DvOk (w:Dv) (p:(Kd→Kd)→Prop):Prop:=match w with | .mk f=>p f | .no=>True
theorem dY {d:D} {g:G} {k:K3} {o:RP} {cl:Cl'} {ih:Dd} {t:FT} {h h':HT} {n n' n0:Nat} {v:RV} {cs:List CK} {hs:List HT} (hw:want t g=.y) (e:step o ys cl fl (limOf k n0) t h n=.ok v h' n') :
  dQ (.q d g k o) ys cl fl n0 ih t h n cs hs=@K3.rec (fun _=>BR) (ih (put t d v) h' n' cs hs) (ih (put t d v) h' n' cs hs) (fun p q=>gO (.bad [96]) (ckOf p q o t n0 v cs) fun cs=>ih (put t d v) h' n' cs hs) (ih (put t d v) h' n' cs (h'::hs)) k:=by
 show dW ys cl fl n0 d k o ih t h n cs hs (want t g)=_
 rw [hw]
 show dOk d k o n0 t (step o ys cl fl (limOf k n0) t h n) cs hs ih=_
 rw [e]
 show fT (put t d v) (fun t'=>@K3.rec (fun _=>BR) (ih t' h' n' cs hs) (ih t' h' n' cs hs) (fun p q=>gO (BR.bad [96]) (ckOf p q o t n0 v cs) fun cs=>ih t' h' n' cs hs) (ih t' h' n' cs (h'::hs)) k)=_
 rw [fT_id]
theorem dN {d:D} {g:G} {k:K3} {o:RP} {cl:Cl'} {ih:Dd} {t:FT} {h:HT} {n n0:Nat} {cs:List CK} {hs:List HT} (hw:want t g=.n) :
  dQ (.q d g k o) ys cl fl n0 ih t h n cs hs=@K3.rec (fun _=>BR) (ih (put t d .ud) h n cs hs) (ih (put t d .ud) h n cs hs) (fun _ _=>ih (put t d .ud) h n cs hs) (ih (put t d .ud) h n cs (h::hs)) k:=by
 show dW ys cl fl n0 d k o ih t h n cs hs (want t g)=_
 rw [hw]
 show fT (put t d .ud) (fun t=>@K3.rec (fun _=>BR) (ih t h n cs hs) (ih t h n cs hs) (fun _ _=>ih t h n cs hs) (ih t h n cs (h::hs)) k)=_
 rw [fT_id]
def DrunOk (ys:Ys) (fl:Nat) (r:Kd→Kd) (d:D) (k:K3) (o:RP):Prop:=∀ nx n0 cs hs3 hs cl3 cl t3 t h3 h n,ClSim fl cl3 cl→FR t3 t→HRel h3 h→HsRel hs3 hs→Good (r nx n0 cs hs3 cl3 t3 h3 n) →
 ∃ v h' n' cs' hs' t3' h3' hs3',step o ys cl fl (limOf k n0) t h n=.ok v h' n'∧(∀ ih:Dd,@K3.rec (fun _=>BR) (ih (put t d v) h' n' cs hs) (ih (put t d v) h' n' cs hs) (fun p q=>gO (.bad [96]) (ckOf p q o t n0 v cs) fun cs=>ih (put t d v) h' n' cs hs) (ih (put t d v) h' n' cs (h'::hs)) k=ih (put t d v) h' n' cs' hs')∧FR t3' (put t d v)∧HRel h3' h'∧HsRel hs3' hs'∧Good (nx n0 cs' hs3' cl3 t3' h3' n')
def DskpOk (r:Kd→Kd) (d:D) (k:K3):Prop:=∀ nx n0 cs hs3 hs cl3 t3 t h3 h n,FR t3 t→HRel h3 h→HsRel hs3 hs→Good (r nx n0 cs hs3 cl3 t3 h3 n) →
 ∃ cs' hs' t3' hs3',(∀ ih:Dd,@K3.rec (fun _=>BR) (ih (put t d .ud) h n cs hs) (ih (put t d .ud) h n cs hs) (fun _ _=>ih (put t d .ud) h n cs hs) (ih (put t d .ud) h n cs (h::hs)) k=ih (put t d .ud) h n cs' hs')∧FR t3' (put t d .ud)∧HsRel hs3' hs'∧Good (nx n0 cs' hs3' cl3 t3' h3 n)
theorem gdV_ok {g:G} {d:D} {k:K3} {o:RP} {r s:Kd→Kd} (hr:DrunOk ys fl r d k o) (hs:DskpOk s d k):DvOk (gdV g r s) fun f=>D1Ok ys fl f (.q d g k o):=by
 cases g with
 | no=>
  exact fun nx n0 cs hs3 hs' cl3 cl t3 t h3 h n hc hF hH hq e=>by
   obtain ⟨v,h',n',cs',hs'',t3',h3',hs3',e1,e2,hF',hH',hq',h1⟩:=hr _ _ _ _ _ _ _ _ _ _ _ _ hc hF hH hq e
   exact ⟨_,h',n',cs',hs'',t3',h3',hs3',fun ih=>(dY rfl e1).trans (e2 ih),hF',hH',hq',h1⟩
 | g p w=>
  obtain ⟨g,e0,hg⟩:=getP_ok p
  show DvOk (@Gw.rec (fun _=>Dv) (fun g=>.mk (gdD g w r s)) (getK (Nat.sub (Pa.val p) 1))) _
  rw [e0]
  exact fun nx n0 cs hs3 hs' cl3 cl t3 t h3 h n hc hF hH hq e=>by
   rcases want_ok (hg _ _ _ hF e) with ⟨e1,h1⟩ | ⟨e1,h1⟩
   ·obtain ⟨v,h',n',cs',hs'',t3',h3',hs3',e2,e3,hF',hH',hq',h2⟩:=hr _ _ _ _ _ _ _ _ _ _ _ _ hc hF hH hq h1
    exact ⟨_,h',n',cs',hs'',t3',h3',hs3',fun ih=>(dY e1 e2).trans (e3 ih),hF',hH',hq',h2⟩
   ·obtain ⟨cs',hs'',t3',hs3',e3,hF',hq',h2⟩:=hs _ _ _ _ _ _ _ _ _ _ _ hF hH hq h1
    exact ⟨_,h,n,cs',hs'',t3',h3,hs3',fun ih=>(dN e1).trans (e3 ih),hF',hH,hq',h2⟩
theorem skD_ok {s:S3} {d:D} {k:K3} (hk:k ≠ .ef) (hs:SOk s fun t v=>put t d v):DskpOk (skD s) d k:=fun nx n0 cs hs3 hs' cl3 t3 t h3 h n hF hH hq e=>by
 obtain ⟨t3',hF',h1⟩:=hs _ _ _ _ hF e
 refine ⟨cs,hs',t3',hs3,fun ih=>?_,hF',hq,h1⟩
 cases k <;> first | rfl | exact absurd rfl hk
theorem skE_ok {s:S3} {d:D} (hs:SOk s fun t v=>put t d v):DskpOk (skE s) d .ef:=fun nx n0 cs hs3 hs' cl3 t3 t h3 h n hF hH hq e=>by
 obtain ⟨t3',hF',h1⟩:=hs _ _ _ _ hF e
 exact ⟨cs,h::hs',t3',h3::hs3,fun ih=>rfl,hF',⟨hH,hq⟩,h1⟩
theorem liD_ok {r:Kt→Kt} {d:D} {o:RP} (hr:RunOk ys fl r d o):DrunOk ys fl (liD r) d .nm o:=fun nx n0 cs hs3 hs cl3 cl t3 t h3 h n hc hF hH hq e=>by
 obtain ⟨v,h',n',t3',h3',e1,hF',hH',h1⟩:=hr _ _ _ _ _ _ _ _ hc hF hH e
 exact ⟨v,h',n',cs,hs,t3',h3',hs3,e1,fun ih=>rfl,hF',hH',hq,h1⟩
theorem ld_lim {g:Bool} {m b o n0:Nat} {a:RO} {cl:Cl'} {t:FT} {h h':HT} {n n':Nat} {v:RV} (ea:ev t a=.p b o) (hb:Nat.ble (b + 1) n0=true) (e:step (.ld g m a) ys cl fl LIM t h n=.ok v h' n'):step (.ld g m a) ys cl fl n0 t h n=.ok v h' n':=by
 have e1:gP (SR.bad [10]) (ev t a) (fun b o=>bf (Nat.ble (Nat.succ b) LIM) (gK (SR.bad [7]) (hg h b) fun cs _=>ldC g m cs o h n) (SR.bad [11]))=.ok v h' n':=e
 show gP (SR.bad [10]) (ev t a) (fun b o=>bf (Nat.ble (Nat.succ b) n0) (gK (SR.bad [7]) (hg h b) fun cs _=>ldC g m cs o h n) (SR.bad [11]))=.ok v h' n'
 rw [ea] at e1 ⊢
 have e2:bf (Nat.ble (b + 1) LIM) (gK (SR.bad [7]) (hg h b) fun cs _=>ldC g m cs o h n) (SR.bad [11])=.ok v h' n':=e1
 show bf (Nat.ble (b + 1) n0) (gK (SR.bad [7]) (hg h b) fun cs _=>ldC g m cs o h n) (SR.bad [11])=.ok v h' n'
 rw [hb]
 cases hl:Nat.ble (b + 1) LIM with
 | true=>rw [hl] at e2; exact e2
 | false=>rw [hl] at e2; cases e2
theorem lm_ok {g:Bool} {m:Nat} {a:RO} {ga:G3} {r:Kt→Kt} {d:D} (hg:GOk ga fun t=>ev t a) (hr:RunOk ys fl r d (.ld g m a)):DrunOk ys fl (limD ga (liD r)) d .lm (.ld g m a):=fun nx n0 cs hs3 hs cl3 cl t3 t h3 h n hc hF hH hq e=>by
 obtain ⟨b,o,e1,h1⟩:=cP_ok (hg _ _ _ hF e)
 obtain ⟨e2,h2⟩:=ifA_y h1
 obtain ⟨v,h',n',t3',h3',e3,hF',hH',h4⟩:=hr _ _ _ _ _ _ _ _ hc hF hH h2
 exact ⟨v,h',n',cs,hs,t3',h3',hs3,ld_lim e1 e2 e3,fun ih=>rfl,hF',hH',hq,h4⟩
theorem ckD_ok {p q:Nat} {g:Bool} {m:Nat} {a:RO} {ga:G3} {f:E3} {s:S3} {d:D} (hg:GOk ga fun t=>ev t a) (hf:EOk ys fl f (.ld g m a)) (hs:SOk s fun t v=>put t d v):DrunOk ys fl (ckD p q g m ga f s) d (.ck p q) (.ld g m a):=fun nx n0 cs hs3 hs' cl3 cl t3 t h3 h n hc hF hH hq e=>by
 obtain ⟨b,o,e1,h1⟩:=cP_ok (hg _ _ _ hF e)
 obtain ⟨e2,h2⟩:=ifA_y h1
 obtain ⟨v,h',n',h3',e3,hH',h4⟩:=hf _ _ _ _ _ _ _ _ hc hF hH h2
 obtain ⟨t3',hF',h5⟩:=hs _ _ _ _ hF h4
 have e1:ev t a=.p b o:=e1
 refine ⟨v,h',n',.k p q b o g m v::cs,hs',t3',h3',hs3,ld_lim e1 e2 e3,fun ih=>?_,hF',hH',hq,h5⟩
 show gO (BR.bad [96]) (gP none (ev t a) fun b o=>bf (Nat.ble (Nat.succ b) n0) (some (.k p q b o g m v::cs)) none) (fun cs=>ih (put t d v) h' n' cs hs')=_
 rw [e1]
 show gO (BR.bad [96]) (bf (Nat.ble (b + 1) n0) (some (.k p q b o g m v::cs)) none) (fun cs=>ih (put t d v) h' n' cs hs')=_
 rw [e2]
 rfl
theorem efD_ok {f:E3} {s:S3} {d:D} {o:RP} (hf:EOk ys fl f o) (hs:SOk s fun t v=>put t d v):DrunOk ys fl (efD f s) d .ef o:=fun nx n0 cs hs3 hs' cl3 cl t3 t h3 h n hc hF hH hq e=>by
 obtain ⟨v,h',n',h3',e3,hH',h4⟩:=hf _ _ _ _ _ _ _ _ hc hF hH e
 obtain ⟨t3',hF',h5⟩:=hs _ _ _ _ hF h4
 exact ⟨v,h',n',cs,h'::hs',t3',h3',h3'::hs3,e3,fun ih=>rfl,hF',hH',⟨hH',hq⟩,h5⟩
theorem efP_ok {f:P3} {s:S3} {d:D} {o:RP} (hf:POk ys f o) (hs:SOk s fun t v=>put t d v):DrunOk ys fl (efP f s) d .ef o:=fun nx n0 cs hs3 hs' cl3 cl t3 t h3 h n hc hF hH hq e=>by
 obtain ⟨v,e3,h4⟩:=hf _ _ _ hF e
 obtain ⟨t3',hF',h5⟩:=hs _ _ _ _ hF h4
 exact ⟨v,h,n,cs,h::hs',t3',h3,h3::hs3,e3 _ _ _ _ _,fun ih=>rfl,hF',hH,⟨hH,hq⟩,h5⟩
theorem adW_ok {o:RP} {f:Bool→Nat→G3→Dv} {p:(Kd→Kd)→Prop} (h:∀ g m a ga,o=.ld g m a→GOk ga (fun t=>ev t a)→DvOk (f g m ga) p):DvOk (adW o f) p:=by
 unfold adW
 split
 ·rename_i g m a
  obtain ⟨ga,e,hg⟩:=ropW_ok a
  rw [e]
  exact h g m a ga rfl hg
 ·trivial
theorem dw1_ok (q:RQ):DvOk (dw1 ys fl q) fun f=>D1Ok ys fl f q:=by
 obtain ⟨d,g,k,o⟩:=q
 obtain ⟨s,e1,hs⟩:=dstW_ok d
 have e0:dw1 ys fl (.q d g k o)=@Sw.rec (fun _=>Dv) (fun s=>@K3.rec (fun _=>Dv)
  (@Ow'.rec F3 H3 (fun _=>Dv) (fun f=>gdV g (liD (qP f s)) (skD s)) (fun f=>gdV g (liD (qE f s)) (skD s)) .no (ow ys fl o))
  (@Ow'.rec F3 H3 (fun _=>Dv) (fun _=>.no) (fun f=>adW o fun _ _ a=>gdV g (limD a (liD (qE f s))) (skD s)) .no (ow ys fl o))
  (fun p q=>@Ow'.rec F3 H3 (fun _=>Dv) (fun _=>.no) (fun f=>adW o fun ag m a=>gdV g (ckD p q ag m a f s) (skD s)) .no (ow ys fl o))
  (@Ow'.rec F3 H3 (fun _=>Dv) (fun f=>gdV g (efP f s) (skE s)) (fun f=>gdV g (efD f s) (skE s)) .no (ow ys fl o)) k) (dstW d):=rfl
 rw [e0,e1]
 have ho:=ow_ok (ys:=ys) (fl:=fl) o
 revert ho
 cases k with
 | nm=>
  show OwOk ys fl (ow ys fl o) o→DvOk (@Ow'.rec F3 H3 (fun _=>Dv) (fun f=>gdV g (liD (qP f s)) (skD s)) (fun f=>gdV g (liD (qE f s)) (skD s)) .no (ow ys fl o)) _
  cases ow ys fl o with
  | p f=>exact fun ho=>gdV_ok (liD_ok (qP_ok ho hs)) (skD_ok (by simp) hs)
  | e f=>exact fun ho=>gdV_ok (liD_ok (qE_ok ho hs)) (skD_ok (by simp) hs)
  | no=>exact fun _=>trivial
 | lm=>
  show OwOk ys fl (ow ys fl o) o→DvOk (@Ow'.rec F3 H3 (fun _=>Dv) (fun _=>.no) (fun f=>adW o fun _ _ a=>gdV g (limD a (liD (qE f s))) (skD s)) .no (ow ys fl o)) _
  cases ow ys fl o with
  | p f=>exact fun ho=>trivial
  | e f=>exact fun ho=>adW_ok fun ag m a ga e hg=>by subst e; exact gdV_ok (lm_ok hg (qE_ok ho hs)) (skD_ok (by simp) hs)
  | no=>exact fun _=>trivial
 | ck p q=>
  show OwOk ys fl (ow ys fl o) o→DvOk (@Ow'.rec F3 H3 (fun _=>Dv) (fun _=>.no) (fun f=>adW o fun ag m a=>gdV g (ckD p q ag m a f s) (skD s)) .no (ow ys fl o)) _
  cases ow ys fl o with
  | p f=>exact fun ho=>trivial
  | e f=>exact fun ho=>adW_ok fun ag m a ga e hg=>by subst e; exact gdV_ok (ckD_ok hg ho hs) (skD_ok (by simp) hs)
  | no=>exact fun _=>trivial
 | ef=>
  show OwOk ys fl (ow ys fl o) o→DvOk (@Ow'.rec F3 H3 (fun _=>Dv) (fun f=>gdV g (efP f s) (skE s)) (fun f=>gdV g (efD f s) (skE s)) .no (ow ys fl o)) _
  cases ow ys fl o with
  | p f=>exact fun ho=>gdV_ok (efP_ok ho hs) (skE_ok hs)
  | e f=>exact fun ho=>gdV_ok (efD_ok ho hs) (skE_ok hs)
  | no=>exact fun _=>trivial
def DOk (ys:Ys) (fl:Nat) (f:Kd→Kd) (l:List RQ):Prop:=∀ nx n0 cs hs3 hs cl3 cl t3 t h3 h n,ClSim fl cl3 cl→FR t3 t→HRel h3 h→HsRel hs3 hs→Good (f (endD nx) n0 cs hs3 cl3 t3 h3 n) →
 ∃ t' h' n' t3' h3',dops ys cl fl n0 l t h n cs hs=.nx t' h' n'∧FR t3' t'∧HRel h3' h'∧Good (nx cl3 t3' h3' n')
theorem dw_ok:∀ l,DvOk (dw ys fl l) fun f=>DOk ys fl f l
 | []=>fun nx n0 cs hs3 hs cl3 cl t3 t h3 h n _ hF hH hq e=>by
  obtain ⟨e1,h1⟩:=ckT_ok hq e
  obtain ⟨e2,h2⟩:=ifA_y h1
  refine ⟨t,h,n,t3,h3,?_,hF,hH,h2⟩
  show bf (ckOver hs cs) (bf (Nat.ble n 8388608) (.nx t h n) (BR.bad [93])) (BR.bad [94])=_
  rw [e1,e2]; rfl
 | q::l=>by
  have h1:=dw1_ok (ys:=ys) (fl:=fl) q
  have h2:=dw_ok l
  show DvOk (@Dv'.rec F3 H3 (fun _=>Dv) (fun a=>@Dv'.rec F3 H3 (fun _=>Dv) (fun b=>.mk (fun nx=>a (b nx))) .no (dw ys fl l)) .no (dw1 ys fl q)) _
  revert h1
  cases dw1 ys fl q with
  | no=>exact fun _=>trivial
  | mk a=>
   intro h1
   show DvOk (@Dv'.rec F3 H3 (fun _=>Dv) (fun b=>.mk (fun nx=>a (b nx))) .no (dw ys fl l)) _
   revert h2
   cases dw ys fl l with
   | no=>exact fun _=>trivial
   | mk b=>
    intro h2 nx n0 cs hs3 hs cl3 cl t3 t h3 h n hc hF hH hq e
    obtain ⟨t',h',n',cs',hs',t3',h3',hs3',e1,hF',hH',hq',h4⟩:=h1 _ _ _ _ _ _ _ _ _ _ _ _ hc hF hH hq e
    obtain ⟨t2,h2',n2,t32,h32,e2,hF2,hH2,h5⟩:=h2 _ _ _ _ _ _ _ _ _ _ _ _ hc hF' hH' hq' h4
    exact ⟨t2,h2',n2,t32,h32,(e1 _).trans e2,hF2,hH2,h5⟩
end
end Go.Rn
