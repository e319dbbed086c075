/-
  One text of a symbolic evaluator Zfe the model, shown sound once for every program: no statement is claimed here.
-/
import Derived.Test.YthcnhbclagegeaaDoorRqH
namespace Go.Rn
attribute [local irreducible] Zla CT9 Zix Zfh
section
variable {ys:Ys} {fl:Nat} {h3:H3} {h:HT} {n:Nat}
theorem Zc9 {α β:Type} (t:T β) (k:T β->α):fT t k=k t:=by cases t <;> rfl
theorem Yv0 {x r:RV}:RV.cons x r ≠ .un:=by simp
theorem Zh7:∀ {c:RV} {c3:C3} {c1:CT} {i:Nat} {k:C3->Nat->A},Zk1 c3 c1->Good (Yfn c c3 i k)->∃ m,Zav c=some m/\∃ c3',Zk1 c3' (lay c c1 i)/\Good (k c3' (i + m)):=by
 intro c
 induction c with
 | nil=>exact fun r e=>⟨0,rfl,_,r,e⟩
 | cons x q _ ih=>
  intro c3 c1 i k r e
  obtain ⟨h1,g,h2,h3⟩:=Zei r (show Good (Zk9 c3 i (fun _ c=>c x) fun t=>Yfn q t (i + 1) k) from e)
  obtain ⟨c3',r',h4⟩:=h3 x h2
  obtain ⟨m,e1,c3'',r'',h5⟩:=ih r' h4
  refine ⟨m + 1,?_,c3'',?_,?_⟩
  ·show gO none (Zav q) (fun n=>some (Nat.succ n))=_
   rw [e1]; rfl
  ·show Zk1 c3'' (fT (cst c1 x i) fun t=>lay q t (i + 1))
   rw [Zc9]; exact r''
  ·rw [show i + (m + 1)=i + 1 + m by omega]; exact h5
 | _=>intros; rename_i e; exact Good.no e
theorem Ydq:∀ {c:RV} {c3:C3} {c1:CT} {i:Nat} {k:C3->A},Zk1 c3 c1->Good (Yh7 c c3 i k)->∃ c1',Zfe c c1 i=some c1'/\∃ c3',Zk1 c3' c1'/\Good (k c3'):=by
 intro c
 induction c with
 | nil=>exact fun r e=>⟨_,rfl,_,r,e⟩
 | cons x q _ ih=>
  intro c3 c1 i k r e
  obtain ⟨h1,g,h2,h3⟩:=Zei r (show Good (Zk9 c3 i (fun y c=>cU y (c x)) fun t=>Yh7 q t (i + 1) k) from e)
  obtain ⟨h0,h2⟩:=Zfd h2
  obtain ⟨c3',r',h4⟩:=h3 x h2
  obtain ⟨c1',e1,c3'',r'',h5⟩:=ih r' h4
  refine ⟨c1',?_,c3'',r'',h5⟩
  show nU none (cg c1 i) (fun _=>fT (cst c1 x i) fun t=>Zfe q t (i + 1))=_
  rw [Zb0 h0,Zc9]; exact e1
 | _=>intros; rename_i e; exact Good.no e
theorem Zot:∀ {m:Nat} {c3:C3} {c1:CT} {o:Nat} {k:RV->A},Zk1 c3 c1->Good (rd3 m c3 o k)->rd c1 m o ≠ .un/\Good (k (rd c1 m o))
 | 0,_,_,_,_,_,e=>⟨by show RV.nil ≠ .un; simp,e⟩
 | m + 1,c3,c1,o,k,r,e=>by
  obtain ⟨h1,h2⟩:=Zfd (Ze0 r (show Good (Zp7 c3 o fun v=>cU v (rd3 m c3 (o + 1) fun r=>k (.cons v r))) from e))
  obtain ⟨h3,h4⟩:=Zot r h2
  show Zd7 (cg c1 o) (rd c1 m (o + 1)) ≠ .un/\Good (k (Zd7 (cg c1 o) (rd c1 m (o + 1))))
  rw [Zh8 h1 h3]
  exact ⟨Yv0,h4⟩
theorem Zwr {g:Bool} {m:Nat} {c3:C3} {c1:CT} {o:Nat} {k:RV->A} (r:Zk1 c3 c1) (e:Good (rdA g m c3 o k)):(∀ h n,ldC g m c1 o h n=SR.ok (rdV g m c1 o) h n)/\rdV g m c1 o ≠ .un/\Good (k (rdV g m c1 o)):=by
 rcases Zaw e with ⟨rfl,h1⟩ | ⟨rfl,h1⟩
 ·obtain ⟨h2,h3⟩:=Zot r h1
  have e:rdV true m c1 o=.agg (rd c1 m o):=Zb0 h2
  rw [e]
  exact ⟨fun h n=>Zb0 h2,by simp,h3⟩
 ·obtain ⟨h2,h3⟩:=Zfd (Ze0 r h1)
  exact ⟨fun h n=>Zck h2,h2,h3⟩
theorem Zml {c3:C3} {c:CT} {z:Nat} {v:RV} {k:KV} (r:Zbw h3 h) (rc:Zk1 c3 c) (e:Good (Zuw h3 n c3 z v k)):Zbu h n c z v=.ok v (hst h (.bk c z) n) (n + 1)/\∃ h3',Zbw h3' (hst h (.bk c z) n)/\Good (k v h3' (n + 1)):=by
 rcases Zaw e with ⟨_,e⟩ | ⟨hz,e⟩
 ·exact Good.no e
 have hmz:z ≠ Zas:=fun q=>by rw [q] at hz; exact absurd hz (by decide)
 obtain ⟨_,b3,g,_,h1,h2⟩:=Zeh r e
 obtain ⟨h3',r',h4⟩:=h2 (bkB c3 z) (.bk c z) (.inl ⟨hmz,c3,rfl,rc⟩) h1
 refine ⟨?_,h3',r',Zat (k:=fun m=>k v h3' m) h4⟩
 show bf (Nat.beq z Zas) _ (fT c (fun cs=>fT (hst h (.bk cs z) n) fun h=>SR.ok v h (Nat.succ n)))=_
 rw [hz,Zc9,Zc9]
 rfl
theorem Zj8 {c v:RV} {k:KV} (r:Zbw h3 h) (e:Good (Ypo h3 n c v k)):∃ h',Zfb h n c v=.ok v h' (n + 1)/\∃ h3',Zbw h3' h'/\Good (k v h3' (n + 1)):=by
 obtain ⟨m,e1,c3,rc,h1⟩:=Zh7 Zll e
 have h2:=Zat (k:=fun z=>Zuw h3 n c3 z v k) h1
 rw [Nat.zero_add] at h2
 obtain ⟨e2,h3',r',h4⟩:=Zml r rc h2
 refine ⟨_,?_,h3',r',h4⟩
 show gO (SR.bad [104]) (Zav c) (fun z=>Zbu h n (lay c ce 0) z v)=_
 rw [e1]
 exact e2
theorem Znw {b:Nat} {k:H3->A} (r:Zbw h3 h) (e:Good (Ztv h3 b k)):∃ h3',Zbw h3' (hst h .no b)/\Good (k h3'):=by
 obtain ⟨_,b3,g,_,h1,h2⟩:=Zeh r e
 exact h2 noB .no rfl h1
theorem Zor {b o:Nat} {v:RV} {k:H3->A} (r:Zbw h3 h) (e:Good (stB fl h3 b o v k)):∃ h',(∀ n,Zdd fl h b o v n=SR.ok .ud h' n)/\∃ h3',Zbw h3' h'/\Good (k h3'):=by
 obtain ⟨h0,e⟩:=Za2 e
 obtain ⟨_,b3,g,rb,h1,h2⟩:=Zeh r e
 obtain ⟨c,z,c3,e1,rc,h3,hmz⟩:=Yxj rb h1
 obtain ⟨c',e2,c3',rc',h4⟩:=Ydq rc h3
 obtain ⟨h3',r',h5⟩:=h2 (bkB c3' z) (.bk c' z) (.inl ⟨hmz,c3',rfl,rc'⟩) h4
 refine ⟨_,fun n=>?_,h3',r',h5⟩
 show bf (Nat.ble fl b) (gK (SR.bad [102]) (hg h b) fun cs z=>gO (SR.bad [103]) (Zfe v cs o) fun cs'=>fT (hst h (.bk cs' z) b) fun h=>SR.ok .ud h n) (SR.bad [101])=_
 rw [h0,e1,Zky,Zma hmz]
 show gO (SR.bad [103]) (Zfe v c o) (fun cs'=>fT (hst h (.bk cs' z) b) fun h=>SR.ok .ud h n)=_
 rw [e2]
 show fT (hst h (.bk c' z) b) (fun h=>SR.ok .ud h n)=_
 rw [Zc9]
theorem Ysw {b o:Nat} {v:RV} {k:H3->A} (r:Zbw h3 h) (e:Good (st1 fl h3 b o v k)):∃ h',(∀ n,Zdd fl h b o (.cons v .nil) n=SR.ok .ud h' n)/\∃ h3',Zbw h3' h'/\Good (k h3'):=by
 obtain ⟨h0,e⟩:=Za2 e
 obtain ⟨_,b3,g,rb,h1,h2⟩:=Zeh r e
 obtain ⟨c,z,c3,e1,rc,h3,hmz⟩:=Yxj rb h1
 obtain ⟨_,g2,h6,h7⟩:=Zei rc h3
 obtain ⟨h8,h9⟩:=Zfd h6
 obtain ⟨c3',rc',h4⟩:=h7 v h9
 obtain ⟨h3',r',h5⟩:=h2 (bkB c3' z) (.bk (cst c v o) z) (.inl ⟨hmz,c3',rfl,rc'⟩) h4
 refine ⟨_,fun n=>?_,h3',r',h5⟩
 show bf (Nat.ble fl b) (gK (SR.bad [102]) (hg h b) fun cs z=>gO (SR.bad [103]) (Zfe (.cons v .nil) cs o) fun cs'=>fT (hst h (.bk cs' z) b) fun h=>SR.ok .ud h n) (SR.bad [101])=_
 rw [h0,e1,Zky,Zma hmz]
 show gO (SR.bad [103]) (nU none (cg c o) fun _=>fT (cst c v o) fun t=>some t) (fun cs'=>fT (hst h (.bk cs' z) b) fun h=>SR.ok .ud h n)=_
 rw [Zb0 h8,Zc9]
 show fT (hst h (.bk (cst c v o) z) b) (fun h=>SR.ok .ud h n)=_
 rw [Zc9]
theorem Zj6 {es b o m:Nat} {k:RV->A} (r:Zbw h3 h) (e:Good (Yfi h3 es b o m k)):Zam h es b o m ≠ .un/\Good (k (Zam h es b o m)):=by
 obtain ⟨c,z,c3,e1,rc,_,h1,hmz⟩:=Zqe r e
 obtain ⟨h2,h3⟩:=Zot rc (Zat (k:=fun q=>rd3 q c3 o k) h1)
 have e2:Zam h es b o m=rd c (Nat.mul m es) o:=by
  show bf (Nat.beq m 0) .nil (gK .un (hg h b) fun c _=>rd c (Nat.mul m es) o)=_
  rw [e1,Zma hmz]
  cases hm:Nat.beq m 0 with
  | true=>
   have:m=0:=Nat.eq_of_beq_eq_true hm
   subst this
   show RV.nil=rd c (0 * es) o
   rw [Nat.zero_mul]; rfl
  | false=>rfl
 rw [e2]
 exact ⟨h2,h3⟩
theorem Zrr {es m:Nat} {v:RV} {k:RV->A} (r:Zbw h3 h) (e:Good (slC h3 es v m k)):Za0 h es v m ≠ .un/\Good (k (Za0 h es v m)):=by
 rcases Zqi e with ⟨_,h1⟩ | ⟨b,o,l,c,rfl,h1⟩ | ⟨b,o,l,c,rfl,h1⟩ | ⟨_,_,_,h1⟩
 ·exact Good.no h1
 ·obtain ⟨h2,h4⟩:=Za2 h1
  have e2:Za0 h es (.sl b o l c) m=Zam h es b o m:=by
   show bf (Nat.ble m l) (Zam h es b o m) .un=_
   rw [h2]; rfl
  rw [e2]
  exact Zj6 r h4
 ·obtain ⟨h2,h4⟩:=Za2 h1
  have e2:Za0 h es (.su b o l c) m=Zam h es b o m:=by
   show bf (Nat.ble m l) (Zam h es b o m) .un=_
   rw [h2]; rfl
  rw [e2]
  exact Zj6 r h4
 ·exact Good.no h1
theorem Zqz {es m:Nat} {y:RV} {k:KV} (r:Zbw h3 h) (e:Good (Yw7 h3 n es y m k)):∃ v h',Zbu h n (lay y ce 0) (Nat.mul m es) (.su n 0 m es)=.ok v h' (n + 1)/\∃ h3',Zbw h3' h'/\Good (k v h3' (n + 1)):=by
 obtain ⟨_,_,c3,rc,h1⟩:=Zh7 Zll e
 obtain ⟨e2,h3',r',h4⟩:=Zml r rc (Zat (k:=fun z=>Zuw h3 n c3 z (.su n 0 m es) k) h1)
 exact ⟨_,_,e2,h3',r',h4⟩
theorem Zkn {es b o l m:Nat} {y:RV} {kill:H3} {kh:HT} {k:KV} (r:Zbw h3 h) (rk:Zbw kill kh) (e:Good (Zju h3 n es b o l y m kill k)):∃ v h',Zg4 h n es b o l y m kh=.ok v h' (n + 1)/\∃ h3',Zbw h3' h'/\Good (k v h3' (n + 1)):=by
 obtain ⟨h1,h2⟩:=Zj6 r e
 obtain ⟨h4,h5⟩:=Zcs h2
 obtain ⟨_,_,c3,rc,h6⟩:=Zh7 Zll h5
 have h7:=Zat (k:=fun q=>frc (Nat.mul q es) fun z=>Zuw kill n c3 z (.su n 0 q es) k) h6
 obtain ⟨e2,h3',r',h8⟩:=Zml rk rc (Zat (k:=fun z=>Zuw kill n c3 z (.su n 0 (Nat.add l m) es) k) h7)
 refine ⟨_,_,?_,h3',r',h8⟩
 show nU (SR.bad [107]) (Zb1 (Zam h es b o l) y) (fun r=>Zbu kh n (lay r ce 0) (Nat.mul (Nat.add l m) es) (.su n 0 (Nat.add l m) es))=_
 rw [Zb0 h4]
 exact e2
theorem Zzy {es b o l m:Nat} {y:RV} {k:KV} (r:Zbw h3 h) (e:Good (Zw2 h3 n es b o l y m k)):∃ v h',Ybb h n es b o l y m (hst h .no b)=.ok v h' (n + 1)/\∃ h3',Zbw h3' h'/\Good (k v h3' (n + 1)):=by
 obtain ⟨c,z,c3,e1,rc,_,h1,hmz⟩:=Zqe r e
 obtain ⟨kill,rk,h2⟩:=Znw r h1
 rcases Zaw h2 with ⟨e2,h4⟩ | ⟨e2,h4⟩
 ·obtain ⟨_,_,c3',rc',h5⟩:=Zh7 rc h4
  have h7:=Zat (k:=fun q=>frc (Nat.mul q es) fun z=>Zuw kill n c3' z (.su n 0 q es) k) h5
  obtain ⟨e3,h3',r',h8⟩:=Zml rk rc' (Zat (k:=fun z=>Zuw kill n c3' z (.su n 0 (Nat.add l m) es) k) h7)
  refine ⟨_,_,?_,h3',r',h8⟩
  show gK (SR.bad [105]) (hg h b) (fun c z=>bf (bf (Nat.beq o 0) (Nat.beq z (Nat.mul l es)) false) (Zbu (hst h .no b) n (lay y c z) (Nat.mul (Nat.add l m) es) (.su n 0 (Nat.add l m) es)) (Zg4 h n es b o l y m (hst h .no b)))=_
  rw [e1,Zma hmz]
  show bf (bf (Nat.beq o 0) (Nat.beq z (Nat.mul l es)) false) _ _=_
  rw [e2]
  exact e3
 ·obtain ⟨v,h',e3,h3',r',h5⟩:=Zkn r rk h4
  refine ⟨v,h',?_,h3',r',h5⟩
  show gK (SR.bad [105]) (hg h b) (fun c z=>bf (bf (Nat.beq o 0) (Nat.beq z (Nat.mul l es)) false) (Zbu (hst h .no b) n (lay y c z) (Nat.mul (Nat.add l m) es) (.su n 0 (Nat.add l m) es)) (Zg4 h n es b o l y m (hst h .no b)))=_
  rw [e1,Zma hmz]
  show bf (bf (Nat.beq o 0) (Nat.beq z (Nat.mul l es)) false) _ _=_
  rw [e2]
  exact e3
theorem Yed {es b o l vb vo m i:Nat} {k:KV} (r:Zbw h3 h) (e:Good (Ysa es b o l vb vo m i h3 n k)):∃ v h',Ypq es b o l vb vo m i h n=.ok v h' (n + 1)/\∃ h3',Zbw h3' h'/\Good (k v h3' (n + 1)):=by
 obtain ⟨_,h1⟩:=Zj6 r e
 have h2:=Zat (k:=fun q=>frc (Nat.sub l i) fun r=>Yfi h3 es b q r fun w=>cUv (Zb1 (Zam h es vb vo m) w) fun y=>Ztv h3 b fun kill=>frc (Nat.add r m) fun q=>Zju h3 n es b o i y q kill k) h1
 have h2:=Zat (k:=fun r=>Yfi h3 es b (Nat.add o (Nat.mul i es)) r fun w=>cUv (Zb1 (Zam h es vb vo m) w) fun y=>Ztv h3 b fun kill=>frc (Nat.add r m) fun q=>Zju h3 n es b o i y q kill k) h2
 obtain ⟨_,h2⟩:=Zj6 r h2
 obtain ⟨h4,h5⟩:=Zcs h2
 obtain ⟨kill,rk,h6⟩:=Znw r h5
 have h6:=Zat (k:=fun q=>Zju h3 n es b o i (Zb1 (Zam h es vb vo m) (Zam h es b (Nat.add o (Nat.mul i es)) (Nat.sub l i))) q kill k) h6
 obtain ⟨v,h',e3,h3',r',h7⟩:=Zkn r rk h6
 refine ⟨v,h',?_,h3',r',h7⟩
 unfold Ypq
 rw [Zb0 h4]
 exact e3
theorem Ymm {es fl:Nat} {a:RV} {k:KV} (r:Zbw h3 h) (e:Good (Xfo es a fl h3 n k)):∃ v h' n',Yxf es a fl h n=.ok v h' n'/\∃ h3',Zbw h3' h'/\Good (k v h3' n'):=by
 obtain ⟨x,r1,rfl,e1⟩:=Zf7 e
 obtain ⟨i,r2,rfl,e2⟩:=Zf7 e1
 obtain ⟨y,r3,rfl,e3⟩:=Zf7 e2
 rcases Zeb e3 with ⟨rfl,e4⟩ | ⟨_,_,_,e4⟩
 case inr=>exact Good.no e4
 rcases Zqi e4 with ⟨_,e5⟩ | ⟨_,_,_,_,_,e5⟩ | ⟨b,o,l,ee,rfl,e5⟩ | ⟨_,_,_,e5⟩
 ·exact Good.no e5
 ·exact Good.no e5
 case inr.inr.inr=>exact Good.no e5
 rcases Zf8 e5 with ⟨i,rfl,e6⟩ | ⟨_,_,e6⟩ | e6
 case inr.inl=>exact Good.no e6
 case inr.inr=>exact Good.no e6
 rcases Zqi e6 with ⟨_,e7⟩ | ⟨vb,vo,m,vc,rfl,e7⟩ | ⟨_,_,_,_,_,e7⟩ | ⟨_,_,_,e7⟩
 ·exact Good.no e7
 case inr.inr.inl=>exact Good.no e7
 case inr.inr.inr=>exact Good.no e7
 rcases Zaw e7 with ⟨h1,e8⟩ | ⟨_,e8⟩
 case inr=>exact Good.no e8
 obtain ⟨v,h',e9,h3',r',h4⟩:=Yed r e8
 refine ⟨v,h',n + 1,?_,h3',r',h4⟩
 show bf (Zvu fl es b l ee vb m i) (Ypq es b o l vb vo m i h n) (SR.bad [186])=_
 rw [h1]
 exact e9
theorem Yhn {es m:Nat} {x y:RV} {k:KV} (r:Zbw h3 h) (e:Good (apC fl es x m y h3 n k)):∃ v h' n',Zoh fl es x m y h n=.ok v h' n'/\∃ h3',Zbw h3' h'/\Good (k v h3' n'):=by
 rcases Zqi e with ⟨rfl,h1⟩ | ⟨b,o,l,c,rfl,h1⟩ | ⟨b,o,l,q,rfl,h1⟩ | ⟨b,q,rfl,h1⟩
 ·obtain ⟨v,h',e2,h3',r',h4⟩:=Zqz r h1
  exact ⟨v,h',_,e2,h3',r',h4⟩
 ·rcases Zaw h1 with ⟨e1,h2⟩ | ⟨e1,h2⟩
  ·obtain ⟨h',e2,h3',r',h4⟩:=Zor r (Zat (k:=fun q=>stB fl h3 b q y fun h=>frc (Nat.add l m) fun lm=>k (.sl b o lm c) h n) h2)
   refine ⟨_,h',n,?_,h3',r',Zat (k:=fun lm=>k (.sl b o lm c) h3' n) h4⟩
   show bf (Nat.ble (Nat.add l m) c) (gR (Zdd fl h b (Nat.add o (Nat.mul l es)) y n) fun _ h n=>SR.ok (.sl b o (Nat.add l m) c) h n) _=_
   rw [e1,e2]
   rfl
  ·rcases Zaw h2 with ⟨e2,h4⟩ | ⟨e2,h4⟩
   ·obtain ⟨v,h',e3,h3',r',h5⟩:=Zqz r h4
    refine ⟨v,h',_,?_,h3',r',h5⟩
    show bf (Nat.ble (Nat.add l m) c) _ (bf (Nat.beq l 0) (Zbu h n (lay y ce 0) (Nat.mul m es) (.su n 0 m es)) (Zg4 h n es b o l y m h))=_
    rw [e1,e2]
    exact e3
   ·obtain ⟨v,h',e3,h3',r',h5⟩:=Zkn r r h4
    refine ⟨v,h',_,?_,h3',r',h5⟩
    show bf (Nat.ble (Nat.add l m) c) _ (bf (Nat.beq l 0) (Zbu h n (lay y ce 0) (Nat.mul m es) (.su n 0 m es)) (Zg4 h n es b o l y m h))=_
    rw [e1,e2]
    exact e3
 ·obtain ⟨e1,h2⟩:=Za2 h1
  have h2:=Zat (k:=fun sp=>ifA (Nat.ble m sp) (frc (Nat.add o (Nat.mul l es)) fun q=>stB fl h3 b q y fun h=>frc (Nat.add l m) fun lm=>frc (Nat.add es (Nat.mul 1048576 (Nat.sub sp m))) fun e=>k (.su b o lm e) h n) (ifA (Nat.ble fl b) (Zw2 h3 n es b o l y m k) .no)) h2
  rcases Zaw h2 with ⟨e0,h2⟩ | ⟨e0,h2⟩
  ·obtain ⟨h',e2,h3',r',h4⟩:=Zor r (Zat (k:=fun p=>stB fl h3 b p y fun h=>frc (Nat.add l m) fun lm=>frc (Nat.add es (Nat.mul 1048576 (Nat.sub (Nat.div q 1048576) m))) fun e=>k (.su b o lm e) h n) h2)
   have h5:=Zat (k:=fun lm=>frc (Nat.add es (Nat.mul 1048576 (Nat.sub (Nat.div q 1048576) m))) fun e=>k (.su b o lm e) h3' n) h4
   have h6:=Zat (k:=fun e=>k (.su b o (Nat.add l m) e) h3' n) h5
   refine ⟨_,h',n,?_,h3',r',h6⟩
   show bf (Nat.beq (Nat.mod q 1048576) es) (bf (Nat.ble m (Nat.div q 1048576)) (gR (Zdd fl h b (Nat.add o (Nat.mul l es)) y n) fun _ h n=>SR.ok (.su b o (Nat.add l m) (Nat.add es (Nat.mul 1048576 (Nat.sub (Nat.div q 1048576) m)))) h n) _) _=_
   rw [e1,e0,e2]
   rfl
  obtain ⟨e2,h4⟩:=Za2 h2
  obtain ⟨v,h',e3,h3',r',h5⟩:=Zzy r h4
  refine ⟨v,h',_,?_,h3',r',h5⟩
  show bf (Nat.beq (Nat.mod q 1048576) es) (bf (Nat.ble m (Nat.div q 1048576)) _ (bf (Nat.ble fl b) (Ybb h n es b o l y m (hst h .no b)) (SR.bad [113]))) (SR.bad [116])=_
  rw [e1,e0,e2]
  exact e3
 ·obtain ⟨e1,h2⟩:=Za2 h1
  obtain ⟨e2,h4⟩:=Za2 h2
  obtain ⟨c,z,c3,e3,rc,_,h5,hmz⟩:=Zqe r h4
  obtain ⟨kill,rk,h6⟩:=Znw r h5
  obtain ⟨v,h',e4,h3',r',h7⟩:=Zqz rk h6
  refine ⟨v,h',_,?_,h3',r',h7⟩
  show bf (Nat.beq q es) (bf (Nat.ble fl b) (gK (SR.bad [118]) (hg h b) fun _ _=>Zbu (hst h .no b) n (lay y ce 0) (Nat.mul m es) (.su n 0 m es)) (SR.bad [114])) (SR.bad [117])=_
  rw [e1,e2,e3,Zky,Zky,Zma hmz]
  exact e4
/-! fields laid Zfe a constant -/
theorem Zqv:∀ {off:Nat} {z p:RV} {k:RV->A},Good (Yxx off z p k)->Zb2 z p off ≠ .un/\Good (k (Zb2 z p off))
 | 0,z,p,k,e=>Zcs e
 | off + 1,z,p,k,e=>by
  obtain ⟨x,r,rfl,h1⟩:=Zf7 e
  obtain ⟨h2,h3⟩:=Zfd h1
  obtain ⟨h4,h5⟩:=Zqv (off:=off) (z:=r) (p:=p) h3
  show Zd7 x (Zb2 r p off) ≠ .un/\Good (k (Zd7 x (Zb2 r p off)))
  rw [Zh8 h2 h4]
  exact ⟨Yv0,h5⟩
def FOk (f:F3->RV->(RV->A)->A) (l:List (Nat × Nat × RO)):Prop:=∀ t3 t z c,FR t3 t->z ≠ .un->Good (f t3 z c)->Zb3 t l z ≠ .un/\Good (c (Zb3 t l z))
theorem Zyk:∀ l,∃ f,Yya l=.mk f/\FOk f l
 | []=>⟨_,rfl,fun _ _ _ _ _ hz h=>⟨hz,h⟩⟩
 | x::l=>by
  obtain ⟨r,e1,h1⟩:=Zyk l
  obtain ⟨g,e2,h2⟩:=Zgr x.2.2
  refine ⟨Yyb x.1 x.2.1 g r,?_,?_⟩
  ·show @Fw'.rec F3 (fun _=>Fw) (fun r=>@Gw.rec (fun _=>Fw) (fun g=>.mk (Yyb x.1 x.2.1 g r)) (Ztn x.2.2)) (Yya l)=_
   rw [e1,e2]
  ·intro t3 t z c hF hz e
   show (gC .un (ev t x.2.2) fun c=>gO .un (Zav c) fun m=>bf (Nat.beq m x.2.1) (nU .un (Zb2 z c x.1) (Zb3 t l)) .un) ≠ .un/\Good (c (gC .un (ev t x.2.2) fun c=>gO .un (Zav c) fun m=>bf (Nat.beq m x.2.1) (nU .un (Zb2 z c x.1) (Zb3 t l)) .un))
   rcases Yii (h2 _ _ _ hF e) with ⟨q,e3,h4⟩ | ⟨e3,_,h4⟩
   ·obtain ⟨m,e4,h5⟩:=Zxa h4
    obtain ⟨e5,h6⟩:=Za2 h5
    obtain ⟨h7,h8⟩:=Zqv h6
    have e3:ev t x.2.2=.agg q:=e3
    rw [e3]
    show (gO .un (Zav q) fun m=>bf (Nat.beq m x.2.1) (nU .un (Zb2 z q x.1) (Zb3 t l)) .un) ≠ .un/\Good (c (gO .un (Zav q) fun m=>bf (Nat.beq m x.2.1) (nU .un (Zb2 z q x.1) (Zb3 t l)) .un))
    rw [e4]
    show bf (Nat.beq m x.2.1) (nU .un (Zb2 z q x.1) (Zb3 t l)) .un ≠ .un/\Good (c (bf (Nat.beq m x.2.1) (nU .un (Zb2 z q x.1) (Zb3 t l)) .un))
    rw [e5]
    show nU .un (Zb2 z q x.1) (Zb3 t l) ≠ .un/\Good (c (nU .un (Zb2 z q x.1) (Zb3 t l)))
    rw [Zb0 h7]
    exact h1 _ _ _ _ hF h7 h8
   ·obtain ⟨e5,h6⟩:=Za2 h4
    obtain ⟨h7,h8⟩:=Zqv h6
    rw [show (gC .un (ev t x.2.2) fun c=>gO .un (Zav c) fun m=>bf (Nat.beq m x.2.1) (nU .un (Zb2 z c x.1) (Zb3 t l)) .un)=bf (Nat.beq 1 x.2.1) (nU .un (Zb2 z (.cons (ev t x.2.2) .nil) x.1) (Zb3 t l)) .un from e3 _ _]
    rw [e5]
    show nU .un (Zb2 z (.cons (ev t x.2.2) .nil) x.1) (Zb3 t l) ≠ .un/\Good (c (nU .un (Zb2 z (.cons (ev t x.2.2) .nil) x.1) (Zb3 t l)))
    rw [Zb0 h7]
    exact h1 _ _ _ _ hF h7 h8
theorem Yg4 {l:List (Nat × Nat × RO)} {f:(F3->RV->(RV->A)->A)->Ow} {o:RP} (h:∀ g,FOk g l->Zci ys fl (f g) o):Zci ys fl (gfl l f) o:=by
 obtain ⟨g,e,hg⟩:=Zyk l
 unfold gfl
 rw [e]
 exact h g hg
theorem Ytw {z:RV} {ps:List (Nat × Nat × RO)} {f:F3->RV->(RV->A)->A} (hz:z ≠ .un) (hf:FOk f ps):POk ys (pBd z f) (.bd z ps):=fun t3 t c hF e=>by
 obtain ⟨h1,h2⟩:=hf _ _ _ _ hF hz e
 exact ⟨_,fun cl fl lim h n=>Zb0 (d:=SR.bad [5]) (k:=fun c=>SR.ok (.agg c) h n) h1,h2⟩
theorem Yu1 {z:RV} {len:Nat} {ps:List (Nat × Nat × RO)} {f:F3->RV->(RV->A)->A} (hz:z ≠ .un) (hf:FOk f ps):EOk ys fl (eBs z len f) (.bs z len ps):=fun cl3 cl t3 t h3 h n c _ hF hH e=>by
 obtain ⟨h1,h2⟩:=hf _ _ _ _ hF hz e
 obtain ⟨h',e2,h3',r',h4⟩:=Zj8 hH h2
 refine ⟨_,h',_,h3',?_,r',h4⟩
 show nU (SR.bad [6]) (Zb3 t ps z) (fun c=>Zfb h n c (.sl n 0 len len))=_
 rw [Zb0 h1]
 exact e2
theorem Yu5 {z:RV}:EOk ys fl (eAl z) (.al z):=fun cl3 cl t3 t h3 h n c _ hF hH e=>by
 obtain ⟨h',e2,h3',r',h4⟩:=Zj8 hH e
 exact ⟨_,h',_,h3',e2,r',h4⟩
theorem Yu0 {x:RO} {g:G3} (hg:GOk g fun t=>ev t x):EOk ys fl (eBx g) (.bx x):=fun cl3 cl t3 t h3 h n c _ hF hH e=>by
 rcases Yii (hg _ _ _ hF e) with ⟨q,e1,h1⟩ | ⟨e1,_,h1⟩
 ·obtain ⟨h',e2,h3',r',h4⟩:=Zj8 hH h1
  refine ⟨_,h',_,h3',?_,r',h4⟩
  have e1:ev t x=.agg q:=e1
  show gC (SR.bad [4]) (ev t x) (fun c=>Zfb h n c (.p n 0))=_
  rw [e1]
  exact e2
 ·obtain ⟨h',e2,h3',r',h4⟩:=Zj8 hH h1
  refine ⟨_,h',_,h3',?_,r',h4⟩
  show gC (SR.bad [4]) (ev t x) (fun c=>Zfb h n c (.p n 0))=_
  exact (e1 _ _).trans e2
theorem Yuu {ag:Bool} {m:Nat} {a:RO} {g:G3} (hga:GOk g fun t=>ev t a):EOk ys fl (eLd ag m g) (.ld ag m a):=fun cl3 cl t3 t h3 h n c _ hF hH e=>by
 obtain ⟨b,o,e1,h1⟩:=Zoq (hga _ _ _ hF e)
 obtain ⟨cs,z,c3,e2,rc,hb,h2,hmz⟩:=Zqe hH h1
 obtain ⟨e3,_,h4⟩:=Zwr rc h2
 have e1:ev t a=.p b o:=e1
 refine ⟨_,h,n,h3,?_,hH,h4⟩
 show gP (SR.bad [10]) (ev t a) (fun b o=>bf (Nat.ble (Nat.succ b) LIM) (gK (SR.bad [7]) (hg h b) fun cs _=>ldC ag m cs o h n) (SR.bad [11]))=_
 rw [e1]
 show bf (Nat.ble (Nat.succ b) LIM) (gK (SR.bad [7]) (hg h b) fun cs _=>ldC ag m cs o h n) (SR.bad [11])=_
 rw [Nat.ble_eq_true_of_le (show Nat.succ b<=LIM by unfold LIM; omega),e2,Zky,Zma hmz]
 exact e3 h n
theorem Yuo {m:Nat} {a v:RO} {g f:G3} (hg:GOk g fun t=>ev t a) (hf:GOk f fun t=>ev t v):EOk ys fl (eSt fl m g f) (.st m a v):=fun cl3 cl t3 t h3 h n c _ hF hH e=>by
 obtain ⟨b,o,e1,h1⟩:=Zoq (hg _ _ _ hF e)
 have e1:ev t a=.p b o:=e1
 rcases Yii (hf _ _ _ hF h1) with ⟨q,e2,h2⟩ | ⟨e2,_,h2⟩
 ·obtain ⟨w,e3,h4⟩:=Zxa h2
  obtain ⟨e4,h5⟩:=Za2 h4
  obtain ⟨h',e5,h3',r',h6⟩:=Zor hH h5
  have e2:ev t v=.agg q:=e2
  refine ⟨_,h',n,h3',?_,r',h6⟩
  show gP (SR.bad [13]) (ev t a) (fun b o=>gC (SR.bad [12]) (ev t v) fun c=>gO (SR.bad [14]) (Zav c) fun q=>bf (Nat.beq q m) (Zdd fl h b o c n) (SR.bad [15]))=_
  rw [e1,e2]
  show gO (SR.bad [14]) (Zav q) (fun w=>bf (Nat.beq w m) (Zdd fl h b o q n) (SR.bad [15]))=_
  rw [e3]
  show bf (Nat.beq w m) (Zdd fl h b o q n) (SR.bad [15])=_
  rw [e4]
  exact e5 n
 ·obtain ⟨e4,h5⟩:=Za2 h2
  obtain ⟨h',e5,h3',r',h6⟩:=Ysw hH h5
  refine ⟨_,h',n,h3',?_,r',h6⟩
  show gP (SR.bad [13]) (ev t a) (fun b o=>gC (SR.bad [12]) (ev t v) fun c=>gO (SR.bad [14]) (Zav c) fun q=>bf (Nat.beq q m) (Zdd fl h b o c n) (SR.bad [15]))=_
  rw [e1]
  show gC (SR.bad [12]) (ev t v) (fun c=>gO (SR.bad [14]) (Zav c) fun q=>bf (Nat.beq q m) (Zdd fl h b o c n) (SR.bad [15]))=_
  rw [e2]
  show bf (Nat.beq 1 m) (Zdd fl h b o (.cons (ev t v) .nil) n) (SR.bad [15])=_
  rw [e4]
  exact e5 n
theorem Yuq {z:RV} {l c:RO} {g f:G3} (hg:GOk g fun t=>ev t l) (hf:GOk f fun t=>ev t c):EOk ys fl (eMs z g f) (.ms z l c):=fun cl3 cl t3 t h3 h n k _ hF hH e=>by
 rcases Zf8 (hg _ _ _ hF e) with ⟨a,e1,h1⟩ | ⟨_,_,h1⟩ | h1
 ·rcases Zf8 (hf _ _ _ hF h1) with ⟨b,e2,h2⟩ | ⟨_,_,h2⟩ | h2
  ·obtain ⟨e3,h4⟩:=Za2 h2
   obtain ⟨e4,h5⟩:=Za2 h4
   obtain ⟨_,h6⟩:=Zcs h5
   obtain ⟨h',e5,h3',r',h7⟩:=Zj8 hH h6
   have e1:ev t l=.i .i64 (.ofNat a):=e1
   have e2:ev t c=.i .i64 (.ofNat b):=e2
   refine ⟨_,h',_,h3',?_,r',h7⟩
   show gI (SR.bad [28]) (ev t l) (fun j a=>gI (SR.bad [29]) (ev t c) fun k b=>bf (bf (Zrk j) (Zrk k) false) (bf (Zjg a) (bf (Zjg b) (bf (Nat.ble (Zbz a) (Zbz b)) (bf (Nat.ble (Zbz b) 65536) (Zfb h n (rep z (Zbz b)) (.sl n 0 (Zbz a) (Zbz b))) (SR.bad [30])) (SR.bad [31])) (SR.bad [32])) (SR.bad [33])) (SR.bad [34]))=_
   rw [e1,e2]
   show bf (Nat.ble a b) (bf (Nat.ble b 65536) (Zfb h n (rep z b) (.sl n 0 a b)) (SR.bad [30])) (SR.bad [31])=_
   rw [e3,e4]
   exact e5
  ·exact Good.no h2
  ·exact Good.no h2
 ·exact Good.no h1
 ·exact Good.no h1
theorem Yuy {f:Nat} {as:List RO} {g:G3} (hg:COk g fun t=>evL t as):EOk ys fl (eCl f g) (.cl f as):=fun cl3 cl t3 t h3 h n k hcl hF hH e=>by
 obtain ⟨h1,h2⟩:=hg _ _ _ hF e
 obtain ⟨v,h',n',h3',e1,r',h4⟩:=hcl _ _ _ _ _ _ hH h2
 refine ⟨v,h',n',h3',?_,r',h4⟩
 show nU (SR.bad [65]) (evL t as) (fun c=>cl f c fl h n)=_
 rw [Zb0 h1]
 exact e1
theorem Zyi {α:Type} {d k0:α} {a r:RV} {k1:RV->RV->α}:gN d (.cons a r) k0 k1=k1 a r:=rfl
theorem Yuh {α:Type} {d k0:α} {k1:RV->RV->α}:gN d .nil k0 k1=k0:=rfl
theorem Xar {α:Type} {d:α} {f:Nat} {c:RV} {k:Nat->RV->α}:gF d (.fn f c) k=k f c:=rfl
theorem Yuz {x:RO} {as:List RO} {a g:G3} (ha:GOk a fun t=>ev t x) (hg:COk g fun t=>evL t as):EOk ys fl (eCf a g) (.cf x as):=fun cl3 cl t3 t h3 h n k hcl hF hH e=>by
 obtain ⟨f,q,e1,h0⟩:=Zt0 (ha _ _ _ hF e)
 obtain ⟨h1,h2⟩:=hg _ _ _ hF h0
 have e1:ev t x=.fn f q:=e1
 have key:step (.cf x as) ys cl fl LIM t h n=bf (Nat.ble BND f) (gN (SR.bad [150]) q (.bad [151]) fun y r=>bf (Nat.ble 33554432 f) (gN (.bad [153]) r (cl (Nat.sub f BND) (.cons y (evL t as)) fl h n) fun _ _=>.bad [154]) (nU (.bad [152]) (Zb1 (evL t as) r) fun q=>cl (Nat.sub f BND) (.cons y q) fl h n)) (nU (SR.bad [68]) (Zb1 (evL t as) q) fun r=>cl f r fl h n):=by
  show gF (SR.bad [66]) (ev t x) (fun f c=>nU (SR.bad [67]) (evL t as) fun a=>bf (Nat.ble BND f) (gN (.bad [150]) c (.bad [151]) fun y r=>bf (Nat.ble 33554432 f) (gN (.bad [153]) r (cl (Nat.sub f BND) (.cons y a) fl h n) fun _ _=>.bad [154]) (nU (.bad [152]) (Zb1 a r) fun q=>cl (Nat.sub f BND) (.cons y q) fl h n)) (nU (SR.bad [68]) (Zb1 a c) fun r=>cl f r fl h n))=_
  rw [e1]
  show nU (SR.bad [67]) (evL t as) _=_
  rw [Zb0 h1]
 rw [key]
 rcases Zaw h2 with ⟨e2,h3⟩ | ⟨e2,h3⟩
 ·obtain ⟨y,r,rfl,h4⟩:=Zf7 h3
  rcases Zaw h4 with ⟨e5,h4⟩ | ⟨e5,h4⟩
  ·rcases Zeb h4 with ⟨rfl,h5⟩ | ⟨_,_,_,h5⟩
   ·have h7:=Zat h5
    obtain ⟨v,h',n',h3',e3,r',h8⟩:=hcl _ _ _ _ _ _ hH h7
    refine ⟨v,h',n',h3',?_,r',h8⟩
    rw [e2,Zky,Zyi,e5,Zky,Yuh]
    exact e3
   ·exact Good.no h5
  obtain ⟨h5,h6⟩:=Zcs h4
  have h7:=Zat h6
  obtain ⟨v,h',n',h3',e3,r',h8⟩:=hcl _ _ _ _ _ _ hH h7
  refine ⟨v,h',n',h3',?_,r',h8⟩
  rw [e2,Zky,Zyi,e5]
  show nU (SR.bad [152]) (Zb1 (evL t as) r) (fun q=>cl (Nat.sub f BND) (.cons y q) fl h n)=_
  rw [Zb0 h5]
  exact e3
 ·obtain ⟨h5,h6⟩:=Zcs h3
  obtain ⟨v,h',n',h3',e3,r',h4⟩:=hcl _ _ _ _ _ _ hH h6
  refine ⟨v,h',n',h3',?_,r',h4⟩
  rw [e2]
  show nU (SR.bad [68]) (Zb1 (evL t as) q) (fun r=>cl f r fl h n)=_
  rw [Zb0 h5]
  exact e3
theorem Zyt {o:Option (List Nat)} {k:List Nat->A} (h:Good (Yyd o k)):∃ l,o=some l/\Good (k l):=by cases o <;> first | exact ⟨_,rfl,h⟩ | exact Good.no h
theorem Zpx {es:Nat} {r:RV} (hr:Za5 r=some 0):Za0 h es r 0=.nil:=by
 cases r <;> first | (cases hr; done) | rfl | (cases hr; rfl)
theorem Yea {a:RV} {k:KV} (r:Zbw h3 h) (e:Good (Yr9 a h3 n k)):∃ v h' n',Ya8 a h n=.ok v h' n'/\∃ h3',Zbw h3' h'/\Good (k v h3' n'):=by
 obtain ⟨x,r1,rfl,e1⟩:=Zf7 e
 obtain ⟨y,r2,rfl,e2⟩:=Zf7 e1
 rcases Zeb e2 with ⟨rfl,e3⟩ | ⟨_,_,_,e3⟩
 case inr=>exact Good.no e3
 obtain ⟨m,e4,h1⟩:=Zdz e3
 obtain ⟨e5,h2⟩:=Za2 h1
 obtain ⟨sep,rfl,h4⟩:=Ybe h2
 obtain ⟨e6,h5⟩:=Zrr r h4
 obtain ⟨l,e7,h6⟩:=Zyt h5
 obtain ⟨e8,h7⟩:=Za2 h6
 refine ⟨.s l,h,n,?_,h3,r,Zmy (k:=fun l=>k (.s l) h3 n) h7⟩
 show gO (SR.bad [198]) (Za5 x) (fun m=>bf (bf (Nat.ble 2 m) (Nat.ble m 65536) false) (nU (.bad [200]) (Za0 h 1 x m) fun c=>gO (.bad [201]) (Zvs sep c) fun l=>bf (Nat.ble l.length 1048576) (.ok (.s l) h n) (.bad [202])) (.bad [203]))=_
 rw [e4]
 show bf (bf (Nat.ble 2 m) (Nat.ble m 65536) false) _ _=_
 rw [e5]
 show nU _ (Za0 h 1 x m) _=_
 rw [Zb0 e6,e7]
 show bf (Nat.ble l.length 1048576) _ _=_
 rw [e8]; rfl
theorem Yco {es fl:Nat} {ch a:RV} {k:KV} (r:Zbw h3 h) (e:Good (Yh1 es a fl h3 n k)):∃ v h' n',Zok es ch a fl h n=.ok v h' n'/\∃ h3',Zbw h3' h'/\Good (k v h3' n'):=by
 rcases Zaw e with ⟨_,e0⟩ | ⟨hz0,e0⟩
 ·cases e0
 rcases Zaw e0 with ⟨hz,e1⟩ | ⟨hz,e1⟩
 ·obtain ⟨v,h',n',e2,h4⟩:=Yea r e1
  refine ⟨v,h',n',?_,h4⟩
  show bf (Nat.ble 33554432 es) _ (bf (Nat.ble 16777216 es) _ _)=_
  rw [hz0,hz]; exact e2
 ·obtain ⟨v,h',n',e2,h4⟩:=Ymm r e1
  refine ⟨v,h',n',?_,h4⟩
  show bf (Nat.ble 33554432 es) _ (bf (Nat.ble 16777216 es) _ _)=_
  rw [hz0,hz]; exact e2
theorem Yu2 {x:RO} {a:G3} (ha:GOk a fun t=>ev t x):EOk ys fl (eB2 a) (.b2 x):=fun cl3 cl t3 t h3 h n k hcl hF hH e=>by
 obtain ⟨m,e1,h1⟩:=Zdz (ha _ _ _ hF e)
 have e1:Za5 (ev t x)=some m:=e1
 obtain ⟨e2,h2⟩:=Za2 h1
 have st:step (.b2 x) ys cl fl LIM t h n=nU (SR.bad [193]) (Za0 h 1 (ev t x) m) fun c=>gO (.bad [194]) (chS c) fun l=>.ok (.s l) h n:=by
  show gO (SR.bad [192]) (Za5 (ev t x)) (fun m=>bf (Nat.ble m 1048576) (nU (.bad [193]) (Za0 h 1 (ev t x) m) fun c=>gO (.bad [194]) (chS c) fun l=>.ok (.s l) h n) (.bad [195]))=_
  rw [e1]
  show bf (Nat.ble m 1048576) _ _=_
  rw [e2]; rfl
 rcases Zaw h2 with ⟨e3,h4⟩ | ⟨_,h4⟩
 ·obtain rfl:=Nat.eq_of_beq_eq_true e3
  refine ⟨.s [],h,n,h3,?_,hH,h4⟩
  rw [st,Zpx e1]; rfl
 ·obtain ⟨h5,h6⟩:=Zrr hH h4
  obtain ⟨l,e4,h7⟩:=Zyt h6
  refine ⟨.s l,h,n,h3,?_,hH,Zmy (k:=fun l=>k (.s l) h3 n) h7⟩
  rw [st,Zb0 h5,e4]; rfl
theorem Ymj {st ag:Bool} {off m:Nat} {u:RV} {k:RV->A} (h:Good (Yx3 st ag off m u k)):∃ v,(∀ h n,ivR st ag off m u h n=.ok v h n)/\Good (k v):=by
 rcases Zaw h with ⟨rfl,h1⟩ | ⟨rfl,h1⟩
 ·obtain ⟨c,rfl,h2⟩:=Zwh h1
  obtain ⟨v,h3,h4⟩:=Znr h2
  exact ⟨v,fun h n=>h3 h n,h4⟩
 ·obtain ⟨h2,h3⟩:=Zcs h1
  exact ⟨u,fun h n=>Zck h2,h3⟩
theorem Zyd {f:Nat} {u:RV} {k3:Nat->RV->A}:∀ {l:List IvE},Good (Yx4 f l u k3)->∃ g r,(∀ h n k,ivL f l u h n k=k g r)/\Good (k3 g r)
 | [],h=>Good.no h
 | .e ty g st ag off m::l,h=>by
  have h0:Good (ifA (Nat.beq f (Nat.add 33554432 ty)) (Yx3 st ag off m u fun r=>k3 g r) (Yx4 f l u k3)):=h
  have st0:∀ h n k,ivL f (.e ty g st ag off m::l) u h n k=bf (Nat.beq f (Nat.add 33554432 ty)) (gR (ivR st ag off m u h n) fun r _ _=>k g r) (ivL f l u h n k):=fun _ _ _=>rfl
  rcases Zaw h0 with ⟨hb,h1⟩ | ⟨hb,h1⟩
  ·obtain ⟨r,h2,h3⟩:=Ymj h1
   exact ⟨g,r,fun h n k=>by rw [st0,hb,h2]; rfl,h3⟩
  ·obtain ⟨g2,r,h2,h3⟩:=Zyd h1
   exact ⟨g2,r,fun h n k=>by rw [st0,hb]; exact h2 h n k,h3⟩
theorem Yuv {l:List IvE} {x:RO} {as:List RO} {a g:G3} (ha:GOk a fun t=>ev t x) (hg:COk g fun t=>evL t as):EOk ys fl (eIv l a g) (.iv l x as):=fun cl3 cl t3 t h3 h n k hcl hF hH e=>by
 obtain ⟨f,hf,h1⟩:=Yhj (ha _ _ _ hF e)
 rcases h1 with ⟨_,h2⟩ | ⟨y,e1,h2⟩
 ·exact Good.no h2
 have e1:ev t x=.fn f (.cons .nil (.cons y .nil)):=e1
 obtain ⟨g0,r,e2,h3'⟩:=Zyd h2
 obtain ⟨h4,h5⟩:=hg _ _ _ hF h3'
 obtain ⟨v,h',n',h3'',e3,r',h6⟩:=hcl _ _ _ _ _ _ hH h5
 refine ⟨v,h',n',h3'',?_,r',h6⟩
 have st:step (.iv l x as) ys cl fl LIM t h n=gIf (.bad [189]) (ev t x) (.bad [190]) (fun f v=>ivL f l v h n fun g r=>nU (.bad [191]) (evL t as) fun a=>cl g (.cons r a) fl h n):=rfl
 rw [st,e1,Zw4 hf,e2,Zb0 h4]
 exact e3
theorem Zyx:∀ {l:List Nat} {k:RV->A},Good (Yye l k)->Good (k (chB l))
 | [],_,h=>h
 | _::l,_,h=>Zyx (l:=l) h
theorem Yfc {v:RV} {k:Nat->A} (h:Good (Ysm v k)):∃ l,Ypj v=some l/\Good (k l):=by
 cases v with
 | s l=>exact ⟨l.length,rfl,Zat (k:=k) h⟩
 | ns=>exact ⟨_,rfl,h⟩
 | sl b o l c=>exact ⟨_,rfl,h⟩
 | su b o l c=>exact ⟨_,rfl,h⟩
 | sx b c=>exact ⟨_,rfl,h⟩
 | _=>exact Good.no h
theorem Yve (l:List Nat):chB l ≠ .un:=by cases l <;> (intro h; cases h)
theorem Zxu {es m:Nat} {v:RV} {k:RV->A} (hv:∀ l,v ≠ .s l):Yxr h3 es v m k=slC h3 es v m k/\Zg9 h es v m=Za0 h es v m:=by
 cases v with
 | s l=>exact absurd rfl (hv l)
 | _=>exact ⟨rfl,rfl⟩
theorem Ykp {es m:Nat} {v:RV} {k:RV->A} (r:Zbw h3 h) (e:Good (Yxr h3 es v m k)):Zg9 h es v m ≠ .un/\Good (k (Zg9 h es v m)):=by
 by_cases hv:∃ l,v=.s l
 ·obtain ⟨l,rfl⟩:=hv
  obtain ⟨e1,h1⟩:=Za2 (show Good (ifA (Nat.beq es 1) (ifA (Nat.beq m l.length) (Yye l k) .no) .no) from e)
  obtain ⟨e2,h2⟩:=Za2 h1
  have e3:Zg9 h es (.s l) m=chB l:=by
   show bf (Nat.beq es 1) (bf (Nat.beq m l.length) (chB l) .un) .un=_
   rw [e1,e2]; rfl
  rw [e3]
  exact ⟨Yve l,Zyx h2⟩
 ·have hv:∀ l,v ≠ .s l:=fun l e=>hv ⟨l,e⟩
  rw [(Zxu (h:=h) hv).1] at e
  rw [(Zxu (h3:=h3) (k:=k) hv).2]
  exact Zrr r e
theorem Yu4 {es:Nat} {x y:RO} {a b:G3} (ha:GOk a fun t=>ev t x) (hb:GOk b fun t=>ev t y):EOk ys fl (eAp fl es a b) (.ap es x y):=fun cl3 cl t3 t h3 h n k hcl hF hH e=>by
 obtain ⟨m,e1,h1⟩:=Yfc (hb _ _ _ hF e)
 have e1:Ypj (ev t y)=some m:=e1
 have st:step (.ap es x y) ys cl fl LIM t h n=bf (Nat.beq m 0) (gO (SR.bad [111]) (Za5 (ev t x)) fun _=>okV (ev t x) h n 111) (bf (Nat.ble m 1048576) (nU (SR.bad [112]) (Zg9 h es (ev t y) m) fun c=>gO (SR.bad [109]) (Za5 (ev t x)) fun l=>bf (Nat.ble l 1048576) (Zoh fl es (ev t x) m c h n) (SR.bad [108])) (SR.bad [107])):=by
  show gO (SR.bad [110]) (Ypj (ev t y)) _=_
  rw [e1]
  rfl
 rw [st]
 rcases Zaw h1 with ⟨e2,h2⟩ | ⟨e2,h2⟩
 ·obtain ⟨l,e3,h4⟩:=Zdz (ha _ _ _ hF h2)
  have e3:Za5 (ev t x)=some l:=e3
  obtain ⟨h5,h6⟩:=Zfd h4
  refine ⟨_,h,n,h3,?_,hH,h6⟩
  rw [e2,e3]
  exact Zck h5
 ·obtain ⟨e3,h4⟩:=Za2 h2
  obtain ⟨h5,h6⟩:=Ykp hH h4
  obtain ⟨l,e4,h7⟩:=Zdz (ha _ _ _ hF h6)
  obtain ⟨e5,h8⟩:=Za2 h7
  obtain ⟨v,h',n',e6,h3',r',h9⟩:=Yhn hH h8
  have e4:Za5 (ev t x)=some l:=e4
  refine ⟨v,h',n',h3',?_,r',h9⟩
  rw [e2,e3]
  show nU (SR.bad [112]) (Zg9 h es (ev t y) m) (fun c=>gO (SR.bad [109]) (Za5 (ev t x)) fun l=>bf (Nat.ble l 1048576) (Zoh fl es (ev t x) m c h n) (SR.bad [108]))=_
  rw [Zb0 h5,e4]
  show bf (Nat.ble l 1048576) (Zoh fl es (ev t x) m (Zg9 h es (ev t y) m) h n) (SR.bad [108])=_
  rw [e5]
  exact e6
theorem Yu3 {es:Nat} {z:RV} {x y:RO} {g f:G3} (hg:GOk g fun t=>ev t x) (hf:GOk f fun t=>ev t y):EOk ys fl (eAz fl es z g f) (.az es z x y):=fun cl3 cl t3 t h3 h n k _ hF hH e=>by
 rcases Zf8 (hf _ _ _ hF e) with ⟨a,e2,h2⟩ | ⟨_,_,h2⟩ | h2
 ·have e2:ev t y=.i .i64 (.ofNat a):=e2
  obtain ⟨e3,h3'⟩:=Za2 h2
  obtain ⟨l,e4,h4⟩:=Zdz (hg _ _ _ hF h3')
  have e4:Za5 (ev t x)=some l:=e4
  have st:step (.az es z x y) ys cl fl LIM t h n=bf (Nat.beq a 0) (okV (ev t x) h n 172) (bf (Nat.ble l 1048576) (nU (.bad [177]) (rep z a) fun c=>gO (.bad [176]) (Zav c) fun q=>bf (Nat.beq q (Nat.mul a es)) (Zoh fl es (ev t x) a c h n) (.bad [179])) (.bad [178])):=by
   show gI (.bad [171]) (ev t y) (fun j a=>bf (Zrk j) (bf (Zjg a) (bf (Nat.ble (Zbz a) 65536) (gO (.bad [170]) (Za5 (ev t x)) fun l=>bf (Nat.beq (Zbz a) 0) (okV (ev t x) h n 172)
    (bf (Nat.ble l 1048576) (nU (.bad [177]) (rep z (Zbz a)) fun c=>gO (.bad [176]) (Zav c) fun q=>bf (Nat.beq q (Nat.mul (Zbz a) es)) (Zoh fl es (ev t x) (Zbz a) c h n) (.bad [179])) (.bad [178]))) (.bad [173])) (.bad [174])) (.bad [175]))=_
   rw [e2]
   show bf (Nat.ble a 65536) (gO (SR.bad [170]) (Za5 (ev t x)) fun l=>bf (Nat.beq a 0) (okV (ev t x) h n 172)
    (bf (Nat.ble l 1048576) (nU (.bad [177]) (rep z a) fun c=>gO (.bad [176]) (Zav c) fun q=>bf (Nat.beq q (Nat.mul a es)) (Zoh fl es (ev t x) a c h n) (.bad [179])) (.bad [178]))) (.bad [173])=_
   rw [e3,e4]; rfl
  rw [st]
  rcases Zaw h4 with ⟨e5,h5⟩ | ⟨e5,h5⟩
  ·obtain ⟨h6,h7⟩:=Zfd h5
   refine ⟨_,h,n,h3,?_,hH,h7⟩
   rw [e5]
   exact Zck h6
  ·obtain ⟨e6,h6⟩:=Za2 h5
   obtain ⟨h7,h8⟩:=Zcs h6
   obtain ⟨q,e7,h9⟩:=Zxa h8
   obtain ⟨e8,h10⟩:=Za2 h9
   obtain ⟨v,h',n',e9,h3'',r',h11⟩:=Yhn hH h10
   refine ⟨v,h',n',h3'',?_,r',h11⟩
   rw [e5,e6]
   show nU (SR.bad [177]) (rep z a) (fun c=>gO (.bad [176]) (Zav c) fun q=>bf (Nat.beq q (Nat.mul a es)) (Zoh fl es (ev t x) a c h n) (.bad [179]))=_
   rw [Zb0 h7,e7]
   show bf (Nat.beq q (Nat.mul a es)) (Zoh fl es (ev t x) a (rep z a) h n) (.bad [179])=_
   rw [e8]
   exact e9
 ·exact Good.no h2
 ·exact Good.no h2
theorem Ygc {x c:RV} {k:H3->A} (r:Zbw h3 h) (e:Good (stL fl x c h3 k)):∃ h',(∀ n v,v ≠ .un->Ztl fl x c h n v=.ok v h' n)/\∃ h3',Zbw h3' h'/\Good (k h3'):=by
 rcases Zqi e with ⟨_,h1⟩ | ⟨b,o,l,q,rfl,h1⟩ | ⟨b,o,l,q,rfl,h1⟩ | ⟨_,_,_,h1⟩
 ·exact Good.no h1
 ·obtain ⟨h',e1,h3',r',h2⟩:=Zor r h1
  refine ⟨h',fun n v hv=>?_,h3',r',h2⟩
  show gR (Zdd fl h b o c n) (fun _ h n=>okV v h n 75)=_
  rw [e1]
  exact Zck hv
 ·obtain ⟨h',e1,h3',r',h2⟩:=Zor r h1
  refine ⟨h',fun n v hv=>?_,h3',r',h2⟩
  show gR (Zdd fl h b o c n) (fun _ h n=>okV v h n 75)=_
  rw [e1]
  exact Zck hv
 ·exact Good.no h1
theorem Yuw {es:Nat} {x y:RO} {a b:G3} (ha:GOk a fun t=>ev t x) (hb:GOk b fun t=>ev t y):EOk ys fl (eCy fl es a b) (.cy es x y):=fun cl3 cl t3 t h3 h n k hcl hF hH e=>by
 obtain ⟨p,e1,h1⟩:=Zdz (ha _ _ _ hF e)
 obtain ⟨q,e2,h2⟩:=Zdz (hb _ _ _ hF h1)
 have e1:Za5 (ev t x)=some p:=e1
 have e2:Za5 (ev t y)=some q:=e2
 have h4:=Zat (r:=bf (Nat.ble q p) q p) (k:=fun q=>ifA (Nat.beq q 0) (k (.i .i64 (.ofNat 0)) h3 n) (slC h3 es (ev t y) q fun c=>stL fl (ev t x) c h3 fun h=>k (.i .i64 (.ofNat q)) h n)) h2
 have st:step (.cy es x y) ys cl fl LIM t h n=bf (Nat.beq (bf (Nat.ble q p) q p) 0) (SR.ok (.i .i64 (Int.ofNat 0)) h n) (nU (SR.bad [79]) (Za0 h es (ev t y) (bf (Nat.ble q p) q p)) fun c=>Ztl fl (ev t x) c h n (mkI .i64 (Int.ofNat (bf (Nat.ble q p) q p)))):=by
  show gO (SR.bad [77]) (Za5 (ev t x)) (fun a=>gO (SR.bad [78]) (Za5 (ev t y)) _)=_
  rw [e1,e2]
  rfl
 rw [st]
 rcases Zaw h4 with ⟨e3,h5⟩ | ⟨e3,h5⟩
 ·exact ⟨_,h,n,h3,by rw [e3]; rfl,hH,h5⟩
 ·obtain ⟨h6,h7⟩:=Zrr hH h5
  obtain ⟨h',e4,h3',r',h8⟩:=Ygc hH h7
  refine ⟨_,h',n,h3',?_,r',h8⟩
  rw [e3]
  show nU (SR.bad [79]) (Za0 h es (ev t y) (bf (Nat.ble q p) q p)) (fun c=>Ztl fl (ev t x) c h n (mkI .i64 (Int.ofNat (bf (Nat.ble q p) q p))))=_
  rw [Zb0 h6,Zdx]
  exact e4 _ _ Zof
theorem Yux {z:RV} {x:RO} {a:G3} (ha:GOk a fun t=>ev t x):EOk ys fl (eCr fl z a) (.cr z x):=fun cl3 cl t3 t h3 h n k hcl hF hH e=>by
 obtain ⟨l,e1,h1⟩:=Zdz (ha _ _ _ hF e)
 have e1:Za5 (ev t x)=some l:=e1
 have st:step (.cr z x) ys cl fl LIM t h n=bf (Nat.beq l 0) (SR.ok (.tup .nil) h n) (nU (SR.bad [85]) (rep z l) fun c=>Ztl fl (ev t x) c h n (.tup .nil)):=by
  show gO (SR.bad [84]) (Za5 (ev t x)) _=_
  rw [e1]
  rfl
 rw [st]
 rcases Zaw h1 with ⟨e3,h5⟩ | ⟨e3,h5⟩
 ·exact ⟨_,h,n,h3,by rw [e3]; rfl,hH,h5⟩
 ·obtain ⟨h6,h7⟩:=Zcs h5
  obtain ⟨h',e4,h3',r',h8⟩:=Ygc hH h7
  refine ⟨_,h',n,h3',?_,r',h8⟩
  rw [e3]
  show nU (SR.bad [85]) (rep z l) (fun c=>Ztl fl (ev t x) c h n (.tup .nil))=_
  rw [Zb0 h6]
  exact e4 _ _ (by simp)
/-! maps -/
theorem Zxb {v:RV} {k:Nat->A} (h:Good (cMp v k)):∃ b,v=.mp b/\Good (k b):=by cases v <;> first | exact ⟨_,rfl,h⟩ | exact Good.no h
theorem Zlj {α:Type} {d:α} {c:CT} {k:CT->α}:gMK d (.bk c Zas) k=k c:=rfl
theorem Yga {c3:C3} {c:CT} {k:Nat->A} (rc:Zk1 c3 c) (h:Good (sz3 c3 k)):∃ s,Zgm c=some s/\Good (k s):=by
 rcases Zf8 (Ze0 rc h) with ⟨m,e,h1⟩ | ⟨_,_,h1⟩ | h1
 ·refine ⟨m,?_,h1⟩
  unfold Zgm
  rw [e]; rfl
 ·exact Good.no h1
 ·exact Good.no h1
theorem Zq4 {q:Nat} {c3:C3} {c:CT} {key:RV} {y:Nat->A} {nn:A} (rc:Zk1 c3 c):∀ s i,Good (Yp9 q c3 key y nn s i)->(Zd4 q c key s i=some none/\Good nn) ∨ ∃ j,Zd4 q c key s i=some (some j)/\Good (y j)
 | 0,_,h=>.inl ⟨rfl,h⟩
 | s + 1,i,h=>by
  have h1:Good (frc (Nat.add 1 (Nat.mul 2 i)) fun o=>Zp7 c3 o fun v=>ifA (Nat.beq (kOf v) q) (ifA (kEq key v) (y i) (frc (Nat.succ i) (Yp9 q c3 key y nn s))) .no):=h
  have h2:=Ze0 rc (Zat (k:=fun o=>Zp7 c3 o fun v=>ifA (Nat.beq (kOf v) q) (ifA (kEq key v) (y i) (frc (Nat.succ i) (Yp9 q c3 key y nn s))) .no) h1)
  obtain ⟨e1,h3⟩:=Za2 h2
  have st:Zd4 q c key (s + 1) i=bf (Nat.beq (kOf (cg c (Nat.add 1 (Nat.mul 2 i)))) q) (bf (kEq key (cg c (Nat.add 1 (Nat.mul 2 i)))) (some (some i)) (Zd4 q c key s (Nat.succ i))) none:=rfl
  rw [st,e1,Zky]
  rcases Zaw h3 with ⟨e2,h4⟩ | ⟨e2,h4⟩
  ·rw [e2]; exact .inr ⟨i,rfl,h4⟩
  ·rw [e2]; exact Zq4 rc s (i + 1) (Zat h4)
theorem Zr8 {v:RV} {y:A} (hH:Zbw h3 h) (e:Good (al3 fl h3 v y)):Zcp fl h v=true/\Good y:=by
 by_cases hv:∃ b o,v=.p b o
 ·obtain ⟨b,o,rfl⟩:=hv
  obtain ⟨e1,h1⟩:=Za2 (show Good (ifA (Nat.ble fl b) (Zjh h3 b fun bk=>bk .no noM fun _ _=>y) .no) from e)
  obtain ⟨b3,rb,_,h2⟩:=Zj9 hH h1
  obtain ⟨c,z,c3,e2,_,h3,hz⟩:=Yxj rb h2
  refine ⟨?_,h3⟩
  show bf (Nat.ble fl b) (Yx9 (hg h b)) false=true
  rw [e1,e2]
  show Zdp (Nat.beq z Zas)=true
  cases hq:Nat.beq z Zas with
  | false=>rfl
  | true=>exact absurd (Nat.eq_of_beq_eq_true hq) hz
 ·have h0:Zcp fl h v=true/\al3 fl h3 v y=y:=by
   cases v with
   | p b o=>exact absurd ⟨b,o,rfl⟩ hv
   | _=>exact ⟨rfl,rfl⟩
  rw [h0.2] at e
  exact ⟨h0.1,e⟩
theorem Ztj {c3:C3} {c:CT} {y:A} (hH:Zbw h3 h) (rc:Zk1 c3 c):∀ s,Good (Ybg fl h3 c3 y s)->(@Nat.rec (fun _=>Bool) true (fun i ih=>bf (Zcp fl h (cg c (Nat.add 1 (Nat.mul 2 i)))) ih false) s)=true/\Good y
 | 0,e=>⟨rfl,e⟩
 | s + 1,e=>by
  have h1:Good (frc (Nat.add 1 (Nat.mul 2 s)) fun o=>Zp7 c3 o fun v=>al3 fl h3 v (Ybg fl h3 c3 y s)):=e
  have h2:=Ze0 rc (Zat (k:=fun o=>Zp7 c3 o fun v=>al3 fl h3 v (Ybg fl h3 c3 y s)) h1)
  obtain ⟨e1,h4⟩:=Zr8 hH h2
  obtain ⟨e2,h5⟩:=Ztj hH rc s h4
  refine ⟨?_,h5⟩
  show bf (Zcp fl h (cg c (Nat.add 1 (Nat.mul 2 s)))) _ false=true
  rw [e1]
  exact e2
theorem Ygs {q:Nat} {key:RV} {c3:C3} {c:CT} {s:Nat} {y:A} (hH:Zbw h3 h) (rc:Zk1 c3 c) (e:Good (mo3 q fl h3 key c3 s y)):mOk q fl h key c s=true/\Good y:=by
 unfold mo3 at e
 rcases Zaw e with ⟨e1,h1⟩ | ⟨e1,h1⟩
 ·obtain ⟨e2,h2⟩:=Zr8 hH h1
  obtain ⟨e3,h3⟩:=Ztj hH rc s h2
  refine ⟨?_,h3⟩
  show bf (Nat.beq q 12) (bf (Zcp fl h key) _ false) true=true
  rw [e1,e2]
  exact e3
 ·refine ⟨?_,h1⟩
  show bf (Nat.beq q 12) _ true=true
  rw [e1]; rfl
theorem Yup {neg:Bool} {x y:RO} {f g:G3} (hf:GOk f fun t=>ev t x) (hg0:GOk g fun t=>ev t y):EOk ys fl (ePq fl neg f g) (.pq neg x y):=fun cl3 cl t3 t h3 h n k _ hF hH e=>by
 obtain ⟨e1,h1⟩:=Za2 (hg0 _ _ _ hF (hf _ _ _ hF e))
 obtain ⟨e2,h2⟩:=Za2 h1
 obtain ⟨e3,h4⟩:=Zr8 hH h2
 obtain ⟨e4,h5⟩:=Zr8 hH h4
 have h6:=Zez (k:=fun v=>k v h3 n) h5
 refine ⟨_,h,n,h3,?_,hH,h6⟩
 show bf (bf (Nat.beq (kOf (ev t x)) 12) (bf (Nat.beq (kOf (ev t y)) 12) (bf (Zcp fl h (ev t x)) (Zcp fl h (ev t y)) false) false) false) _ _=_
 rw [show Nat.beq (kOf (ev t x)) 12=true from e1,show Nat.beq (kOf (ev t y)) 12=true from e2,show Zcp fl h (ev t x)=true from e3,show Zcp fl h (ev t y)=true from e4]
 rfl
theorem Yus:EOk ys fl eMk .mk:=fun cl3 cl t3 t h3 h n k _ hF hH e=>by
 obtain ⟨_,g,h1,h2⟩:=Zei Zll e
 obtain ⟨c3,rc,h4⟩:=h2 _ h1
 obtain ⟨_,b3,g',_,h5,h6⟩:=Zeh hH h4
 obtain ⟨h3',r',h7⟩:=h6 (mpB c3) (.bk (cst ce (.i .i64 (.ofNat 0)) 0) Zas) (.inr ⟨rfl,c3,rfl,rc⟩) h5
 refine ⟨.mp n,_,_,h3',?_,r',Zat (k:=fun m=>k (.mp n) h3' m) h7⟩
 show fT (cst ce (.i .i64 (.ofNat 0)) 0) (fun cs=>fT (hst h (.bk cs Zas) n) fun h=>SR.ok (.mp n) h (Nat.succ n))=_
 rw [Zc9,Zc9]
theorem Ygt {two:Bool} {x:RV} {b:Bool} {k:KV} (h1:Good (mlK two x b h3 n k)):x ≠ .un/\Good (k (bf two (.tup (.cons x (.cons (.b b) .nil))) x) h3 n):=by
 obtain ⟨hx,h2⟩:=Zfd h1
 rcases Zaw h2 with ⟨rfl,h4⟩ | ⟨rfl,h4⟩ <;> exact ⟨hx,h4⟩
theorem Yur {q:Nat} {z:RV} {two:Bool} {mo ko:RO} {f g:G3} (hf:GOk f fun t=>ev t mo) (hg0:GOk g fun t=>ev t ko):EOk ys fl (eMl fl q z two f g) (.ml q z two mo ko):=fun cl3 cl t3 t h3 h n k _ hF hH e=>by
 obtain ⟨b,e1,h1⟩:=Zxb (hf _ _ _ hF e)
 have e1:ev t mo=.mp b:=e1
 obtain ⟨ek,h2⟩:=Za2 (hg0 _ _ _ hF h1)
 obtain ⟨b3,rb,hb,h4⟩:=Zj9 hH h2
 obtain ⟨c,c3,e2,rc,h5⟩:=Yqx rb h4
 obtain ⟨s,e3,h6⟩:=Yga rc h5
 obtain ⟨em,h6⟩:=Ygs hH rc h6
 have em:mOk q fl h (ev t ko) c s=true:=em
 have st:step (.ml q z two mo ko) ys cl fl LIM t h n=gO (SR.bad [144]) (Zd4 q c (ev t ko) s 0) fun x=>Yhv two z c h n x:=by
  show gM (SR.bad [140]) (ev t mo) (fun b=>bf (Nat.ble (Nat.succ b) LIM) (gMK (.bad [141]) (hg h b) fun cs=>gO (.bad [142]) (Zgm cs) fun s=>
   bf (bf (mOk q fl h (ev t ko) cs s) (Nat.beq (kOf (ev t ko)) q) false) (gO (.bad [144]) (Zd4 q cs (ev t ko) s 0) fun x=>Yhv two z cs h n x) (.bad [143])) (.bad [145]))=_
  rw [e1]
  show bf (Nat.ble (Nat.succ b) LIM) (gMK (SR.bad [141]) (hg h b) fun cs=>gO (.bad [142]) (Zgm cs) fun s=>
   bf (bf (mOk q fl h (ev t ko) cs s) (Nat.beq (kOf (ev t ko)) q) false) (gO (.bad [144]) (Zd4 q cs (ev t ko) s 0) fun x=>Yhv two z cs h n x) (.bad [143])) (.bad [145])=_
  rw [Nat.ble_eq_true_of_le (show Nat.succ b<=LIM by unfold LIM; omega),e2,Zky,Zlj,e3]
  show bf (bf (mOk q fl h (ev t ko) c s) (Nat.beq (kOf (ev t ko)) q) false) _ _=_
  rw [em,show Nat.beq (kOf (ev t ko)) q=true from ek]
  rfl
 rw [st]
 rcases Zq4 rc s 0 h6 with ⟨e4,h7⟩ | ⟨j,e4,h7⟩
 ·obtain ⟨hx,h8⟩:=Ygt h7
  refine ⟨_,h,n,h3,?_,hH,h8⟩
  rw [e4]
  show nU (SR.bad [139]) z _=_
  rw [Zb0 hx]
  cases two <;> rfl
 ·obtain ⟨hx,h8⟩:=Ygt (Ze0 rc (Zat (k:=fun o=>Zp7 c3 o fun v=>mlK two v true h3 n k) h7))
  refine ⟨_,h,n,h3,?_,hH,h8⟩
  rw [e4]
  show nU (SR.bad [139]) (cg c (Nat.add 2 (Nat.mul 2 j))) _=_
  rw [Zb0 hx]
  cases two <;> rfl
theorem Yut {q:Nat} {mo ko xo:RO} {f g p:G3} (hf:GOk f fun t=>ev t mo) (hg0:GOk g fun t=>ev t ko) (hp:GOk p fun t=>ev t xo):EOk ys fl (eMi fl q f g p) (.mi q mo ko xo):=fun cl3 cl t3 t h3 h n k _ hF hH e=>by
 obtain ⟨b,e1,h1⟩:=Zxb (hf _ _ _ hF e)
 have e1:ev t mo=.mp b:=e1
 obtain ⟨hku,h1⟩:=Zfd (hp _ _ _ hF (hg0 _ _ _ hF h1))
 obtain ⟨hxu,h1⟩:=Zfd h1
 have hku:ev t ko ≠ .un:=hku
 have hxu:ev t xo ≠ .un:=hxu
 obtain ⟨ek,h1⟩:=Za2 h1
 obtain ⟨el,h2⟩:=Za2 h1
 obtain ⟨_,b3,w,rb,h4,h5⟩:=Zeh hH h2
 obtain ⟨c,c3,e2,rc,h6⟩:=Yqx rb h4
 obtain ⟨s,e3,h7⟩:=Yga rc h6
 obtain ⟨es,h8⟩:=Za2 h7
 obtain ⟨em,h8⟩:=Ygs hH rc h8
 have em:mOk q fl h (ev t ko) c s=true:=em
 have st:step (.mi q mo ko xo) ys cl fl LIM t h n=gO (SR.bad [134]) (Zd4 q c (ev t ko) s 0) fun x=>SR.ok .ud (hst h (.bk (Zux c (ev t ko) (ev t xo) s x) Zas) b) n:=by
  show gM (SR.bad [130]) (ev t mo) (fun b=>bf (Nat.ble fl b) (gMK (.bad [131]) (hg h b) fun cs=>gO (.bad [132]) (Zgm cs) fun s=>bf (Nat.ble s 65536)
   (bf (bf (mOk q fl h (ev t ko) cs s) (Nat.beq (kOf (ev t ko)) q) false) (gO (.bad [134]) (Zd4 q cs (ev t ko) s 0) fun x=>nU (.bad [135]) (ev t xo) fun v=>nU (.bad [136]) (ev t ko) fun key=>fT (Zux cs key v s x) fun cs=>fT (hst h (.bk cs Zas) b) fun h=>.ok .ud h n) (.bad [133])) (.bad [137])) (.bad [138]))=_
  rw [e1]
  show bf (Nat.ble fl b) (gMK (SR.bad [131]) (hg h b) fun cs=>gO (.bad [132]) (Zgm cs) fun s=>bf (Nat.ble s 65536)
   (bf (bf (mOk q fl h (ev t ko) cs s) (Nat.beq (kOf (ev t ko)) q) false) (gO (.bad [134]) (Zd4 q cs (ev t ko) s 0) fun x=>nU (.bad [135]) (ev t xo) fun v=>nU (.bad [136]) (ev t ko) fun key=>fT (Zux cs key v s x) fun cs=>fT (hst h (.bk cs Zas) b) fun h=>.ok .ud h n) (.bad [133])) (.bad [137])) (.bad [138])=_
  rw [el,e2,Zky,Zlj,e3]
  show bf (Nat.ble s 65536) (bf (bf (mOk q fl h (ev t ko) c s) (Nat.beq (kOf (ev t ko)) q) false) _ _) _=_
  rw [es,em,show Nat.beq (kOf (ev t ko)) q=true from ek,Zky,Zky,Zky]
  have hx:(fun x=>nU (SR.bad [135]) (ev t xo) fun v=>nU (SR.bad [136]) (ev t ko) fun key=>fT (Zux c key v s x) fun cs=>fT (hst h (.bk cs Zas) b) fun h=>SR.ok .ud h n)=fun x=>SR.ok .ud (hst h (.bk (Zux c (ev t ko) (ev t xo) s x) Zas) b) n:=funext fun x=>by
   rw [Zb0 hxu,Zb0 hku,Zc9,Zc9]
  exact congrArg (gO (SR.bad [134]) (Zd4 q c (ev t ko) s 0)) hx
 rw [st]
 rcases Zq4 rc s 0 h8 with ⟨e4,h9⟩ | ⟨j,e4,h9⟩
 ·obtain ⟨_,g1,k1,k2⟩:=Zei rc (Zat (k:=fun o=>Zk9 c3 o (fun _ g=>g (ev t ko)) fun c=>frc (Nat.add 2 (Nat.mul 2 s)) fun o=>Zk9 c o (fun _ g=>g (ev t xo)) fun c=>frc (Nat.succ s) fun s=>Zk9 c 0 (fun _ g=>g (.i .i64 (.ofNat s))) fun c=>w (mpB c)) h9)
  obtain ⟨c4,rc4,k3⟩:=k2 _ k1
  obtain ⟨_,g2,k4,k5⟩:=Zei rc4 (Zat (k:=fun o=>Zk9 c4 o (fun _ g=>g (ev t xo)) fun c=>frc (Nat.succ s) fun s=>Zk9 c 0 (fun _ g=>g (.i .i64 (.ofNat s))) fun c=>w (mpB c)) k3)
  obtain ⟨c5,rc5,k6⟩:=k5 _ k4
  obtain ⟨_,g3,k7,k8⟩:=Zei rc5 (Zat (k:=fun s=>Zk9 c5 0 (fun _ g=>g (.i .i64 (.ofNat s))) fun c=>w (mpB c)) k6)
  obtain ⟨c6,rc6,k9⟩:=k8 _ k7
  obtain ⟨h3',r',k10⟩:=h5 (mpB c6) (.bk _ Zas) (.inr ⟨rfl,c6,rfl,rc6⟩) k9
  refine ⟨_,_,n,h3',?_,r',k10⟩
  rw [e4]
  show SR.ok .ud (hst h (.bk (fT _ _) Zas) b) n=_
  rw [Zc9,Zc9]
 ·obtain ⟨_,g1,k1,k2⟩:=Zei rc (Zat (k:=fun o=>Zk9 c3 o (fun _ g=>g (ev t xo)) fun c=>w (mpB c)) h9)
  obtain ⟨c4,rc4,k3⟩:=k2 _ k1
  obtain ⟨h3',r',k10⟩:=h5 (mpB c4) (.bk _ Zas) (.inr ⟨rfl,c4,rfl,rc4⟩) k3
  refine ⟨_,_,n,h3',?_,r',k10⟩
  rw [e4]
  rfl
theorem Yr1 (o:RP):Zci ys fl (ow ys fl o) o:=by
 cases o with
 | mv x=>exact show Zci ys fl (g1 x fun x=>.p (pMv x)) (.mv x) from Zc8 (ys:=ys) (fl:=fl) fun g hg=>Ytj hg
 | pick c a b=>exact show Zci ys fl (g1 c fun c=>g2 a b fun a b=>.p (Yh6 c a b)) (.pick c a b) from Zc8 (ys:=ys) (fl:=fl) fun g hg=>Zfc fun p q hp hq=>Ydp hg hp hq
 | al z=>exact Yu5
 | bx x=>exact show Zci ys fl (g1 x fun x=>.e (eBx x)) (.bx x) from Zc8 (ys:=ys) (fl:=fl) fun g hg=>Yu0 hg
 | bd z ps=>
  show Zci ys fl (nU .no z fun z=>gfl ps fun f=>.p (pBd z f)) (.bd z ps)
  by_cases hz:z=.un
  ·subst hz; trivial
  ·rw [Zb0 hz]; exact Yg4 fun f hf=>Ytw hz hf
 | bs z len ps=>
  show Zci ys fl (nU .no z fun z=>gfl ps fun f=>.e (eBs z len f)) (.bs z len ps)
  by_cases hz:z=.un
  ·subst hz; trivial
  ·rw [Zb0 hz]; exact Yg4 fun f hf=>Yu1 hz hf
 | ld g m a=>exact show Zci ys fl (g1 a fun a=>.e (eLd g m a)) (.ld g m a) from Zc8 (ys:=ys) (fl:=fl) fun g hg=>Yuu hg
 | st m a v=>exact show Zci ys fl (g2 a v fun a v=>.e (eSt fl m a v)) (.st m a v) from Zfc fun p q hp hq=>Yuo hp hq
 | nc x=>exact show Zci ys fl (g1 x fun x=>.p (pNc x)) (.nc x) from Zc8 (ys:=ys) (fl:=fl) fun g hg=>Yti hg
 | bn op x y=>exact show Zci ys fl (g2 x y fun x y=>.p (Yx0 (Yyi ys op) x y)) (.bn op x y) from Zfc fun p q hp hq=>Yl3 (Yo1 op) hp hq
 | bq neg x y=>exact show Zci ys fl (g2 x y fun x y=>.p (pBq neg x y)) (.bq neg x y) from Zfc fun p q hp hq=>Ytv hp hq
 | nq kd neg x y=>exact show Zci ys fl (g2 x y fun x y=>.p (pNq kd neg x y)) (.nq kd neg x y) from Zfc fun p q hp hq=>Ytg hp hq
 | ng x=>exact show Zci ys fl (g1 x fun x=>.p (pNg x)) (.ng x) from Zc8 (ys:=ys) (fl:=fl) fun g hg=>Yth hg
 | nt x=>exact show Zci ys fl (g1 x fun x=>.p (pNt x)) (.nt x) from Zc8 (ys:=ys) (fl:=fl) fun g hg=>Ytf hg
 | cv k x=>exact show Zci ys fl (g1 x fun x=>.p (pCv (cvF k) x)) (.cv k x) from Zc8 (ys:=ys) (fl:=fl) fun g hg=>Ytt hg
 | mf f cs=>exact show Zci ys fl (gl cs fun c=>.p (pMf f c)) (.mf f cs) from Ybc fun g hg=>Ytl hg
 | ms z l c=>exact show Zci ys fl (g2 l c fun l c=>.e (eMs z l c)) (.ms z l c) from Zfc fun p q hp hq=>Yuq hp hq
 | sc es x lo hi mx=>
  cases mx with
  | none=>exact show Zci ys fl (g1 x fun x=>n1 lo fun lo=>n1 hi fun hi=>.p (pSc es x lo hi)) (.sc es x lo hi none) from Zc8 (ys:=ys) (fl:=fl) fun g hg=>Zl7 fun a ha=>Zl7 fun b hb=>Ytd hg ha hb
  | some m=>exact show Zci ys fl (g1 x fun x=>n1 lo fun lo=>n1 hi fun hi=>n1 (some m) fun m=>.p (Yxy es x lo hi m)) (.sc es x lo hi (some m)) from Zc8 (ys:=ys) (fl:=fl) fun g hg=>Zl7 fun a ha=>Zl7 fun b hb=>Zl7 fun d hd=>Yl1 hg ha hb hd
 | ss x lo hi=>exact show Zci ys fl (g1 x fun x=>n1 lo fun lo=>n1 hi fun hi=>.p (pSs x lo hi)) (.ss x lo hi) from Zc8 (ys:=ys) (fl:=fl) fun g hg=>Zl7 fun a ha=>Zl7 fun b hb=>Ytb hg ha hb
 | sa m es x lo hi=>exact show Zci ys fl (g1 x fun x=>n1 lo fun lo=>n1 hi fun hi=>.p (pSa m es x lo hi)) (.sa m es x lo hi) from Zc8 (ys:=ys) (fl:=fl) fun g hg=>Zl7 fun a ha=>Zl7 fun b hb=>Yte hg ha hb
 | fa off x=>exact show Zci ys fl (g1 x fun x=>.p (pFa off x)) (.fa off x) from Zc8 (ys:=ys) (fl:=fl) fun g hg=>Ytr hg
 | fd g off m x=>exact show Zci ys fl (g1 x fun x=>.p (pFd g off m x)) (.fd g off m x) from Zc8 (ys:=ys) (fl:=fl) fun g hg=>Ytq hg
 | ia es x i=>exact show Zci ys fl (g2 x i fun x i=>.p (pIa es x i)) (.ia es x i) from Zfc fun p q hp hq=>Ytp hp hq
 | ip m es x i=>exact show Zci ys fl (g2 x i fun x i=>.p (pIp m es x i)) (.ip m es x i) from Zfc fun p q hp hq=>Yto hp hq
 | ix g m es x i=>exact show Zci ys fl (g2 x i fun x i=>.p (pIx g m es x i)) (.ix g m es x i) from Zfc fun p q hp hq=>Ytn hp hq
 | sx x i=>exact show Zci ys fl (g2 x i fun x i=>.p (pSx x i)) (.sx x i) from Zfc fun p q hp hq=>Yta hp hq
 | ex k x=>exact show Zci ys fl (g1 x fun x=>.p (pEx k x)) (.ex k x) from Zc8 (ys:=ys) (fl:=fl) fun g hg=>Yts hg
 | cl f as=>exact show Zci ys fl (gl as fun c=>.e (eCl f c)) (.cl f as) from Ybc fun g hg=>Yuy hg
 | cf x as=>exact show Zci ys fl (g1 x fun x=>gl as fun c=>.e (eCf x c)) (.cf x as) from Zc8 (ys:=ys) (fl:=fl) fun a ha=>Ybc fun g hg=>Yuz ha hg
 | ln st x=>
  cases st with
  | true=>exact show Zci ys fl (g1 x fun x=>.p (Yxz x)) (.ln true x) from Zc8 (ys:=ys) (fl:=fl) fun g hg=>Yl2 hg
  | false=>exact show Zci ys fl (g1 x fun x=>.p (pLn x)) (.ln false x) from Zc8 (ys:=ys) (fl:=fl) fun g hg=>Ytm hg
 | cp x=>exact show Zci ys fl (g1 x fun x=>.p (pCp x)) (.cp x) from Zc8 (ys:=ys) (fl:=fl) fun g hg=>Ytu hg
 | ap es x y=>exact show Zci ys fl (g2 x y fun x y=>.e (eAp fl es x y)) (.ap es x y) from Zfc fun p q hp hq=>Yu4 hp hq
 | cy es x y=>exact show Zci ys fl (g2 x y fun x y=>.e (eCy fl es x y)) (.cy es x y) from Zfc fun p q hp hq=>Yuw hp hq
 | mm mx x y=>exact show Zci ys fl (g2 x y fun x y=>.p (pMm mx x y)) (.mm mx x y) from Zfc fun p q hp hq=>Ytk hp hq
 | se ks neg x y=>exact show Zci ys fl (g2 x y fun x y=>.p (pSe ys ks neg x y)) (.se ks neg x y) from Zfc fun p q hp hq=>Ytc hp hq
 | mk=>exact Yus
 | ta ty z two x=>exact show Zci ys fl (g1 x fun x=>.p (pTa ty z two x)) (.ta ty z two x) from Zc8 (ys:=ys) (fl:=fl) fun g hg=>Ys9 hg
 | pq neg x y=>exact show Zci ys fl (g2 x y fun x y=>.e (ePq fl neg x y)) (.pq neg x y) from Zfc fun p q hp hq=>Yup hp hq
 | b2 x=>exact show Zci ys fl (g1 x fun x=>.e (eB2 x)) (.b2 x) from Zc8 (ys:=ys) (fl:=fl) fun g hg=>Yu2 hg
 | iv l x as=>exact show Zci ys fl (g1 x fun x=>gl as fun c=>.e (eIv l x c)) (.iv l x as) from Zc8 (ys:=ys) (fl:=fl) fun a ha=>Ybc fun g hg=>Yuv ha hg
 | az es z x y=>exact show Zci ys fl (g2 x y fun x y=>.e (eAz fl es z x y)) (.az es z x y) from Zfc fun p q hp hq=>Yu3 hp hq
 | fg=>exact show EOk ys fl eFg .fg from fun _ _ _ _ _ h n _ _ _ hH e=>⟨.un,h,n,_,rfl,hH,e⟩
 | mi q m k x=>exact show Zci ys fl (g1 m fun m=>g2 k x fun k x=>.e (eMi fl q m k x)) (.mi q m k x) from Zc8 (ys:=ys) (fl:=fl) fun g hg=>Zfc fun p q hp hq=>Yut hg hp hq
 | ml q z two m k=>exact show Zci ys fl (g2 m k fun m k=>.e (eMl fl q z two m k)) (.ml q z two m k) from Zfc fun p q hp hq=>Yur hp hq
 | cr z x=>exact show Zci ys fl (g1 x fun x=>.e (eCr fl z x)) (.cr z x) from Zc8 (ys:=ys) (fl:=fl) fun g hg=>Yux hg
end
end Go.Rn
namespace Go.Rn
attribute [local irreducible] Zla CT9 Zix Zfh
section
variable {ys:Ys} {fl:Nat}
theorem Zyo (d:D):∃ s,Yqt d=.mk s/\SOk s fun t v=>put t d v:=by
 cases d with
 | no=>exact ⟨_,rfl,fun t3 t v c hF h=>⟨t3,hF,h⟩⟩
 | d p=>exact Zxv p
def Zwj (ys:Ys) (fl:Nat) (r:Kt->Kt) (d:D) (o:RP):Prop:=∀ nx cl3 cl t3 t h3 h n,Zjn fl cl3 cl->FR t3 t->Zbw h3 h->Good (r nx cl3 t3 h3 n) ->
 ∃ v h' n' t3' h3',step o ys cl fl LIM t h n=.ok v h' n'/\FR t3' (put t d v)/\Zbw h3' h'/\Good (nx cl3 t3' h3' n')
theorem Yr0 {f:P3} {s:S3} {d:D} {o:RP} (hf:POk ys f o) (hs:SOk s fun t v=>put t d v):Zwj ys fl (qP f s) d o:=fun nx cl3 cl t3 t h3 h n _ hF hH e=>by
 obtain ⟨v,e1,h1⟩:=hf _ _ _ hF e
 obtain ⟨t3',hF',h2⟩:=hs _ _ _ _ hF h1
 exact ⟨v,h,n,t3',h3,e1 _ _ _ _ _,hF',hH,h2⟩
theorem Yh4 {f:E3} {s:S3} {d:D} {o:RP} (hf:EOk ys fl f o) (hs:SOk s fun t v=>put t d v):Zwj ys fl (qE f s) d o:=fun nx cl3 cl t3 t h3 h n hc hF hH e=>by
 obtain ⟨v,h',n',h3',e1,hH',h1⟩:=hf _ _ _ _ _ _ _ _ hc hF hH e
 obtain ⟨t3',hF',h2⟩:=hs _ _ _ _ hF h1
 exact ⟨v,h',n',t3',h3',e1,hF',hH',h2⟩
def Xhz (ys:Ys) (fl:Nat) (f:Kt->Kt) (q:RQ):Prop:=∀ nx cl3 cl t3 t h3 h n,Zjn fl cl3 cl->FR t3 t->Zbw h3 h->Good (f nx cl3 t3 h3 n) ->
 ∃ t' h' n' t3' h3',(∀ ih:Bd,Yp5 q ys cl fl ih t h n=ih t' h' n')/\FR t3' t'/\Zbw h3' h'/\Good (nx cl3 t3' h3' n')
def Yfw (w:Lw) (p:(Kt->Kt)->Prop):Prop:=match w with | .mk f=>p f | .no=>True
theorem Xfj {d:D} {g:G} {k:K3} {o:RP} {cl:Cl'} {ih:Bd} {t:FT} {h h':HT} {n n':Nat} {v:RV} (hw:Zf6 t g=.y) (e:step o ys cl fl LIM t h n=.ok v h' n'):Yp5 (.q d g k o) ys cl fl ih t h n=ih (put t d v) h' n':=by
 show Ypn ys cl fl d o ih t h n (Zf6 t g)=_
 rw [hw]
 show Ztr d t (step o ys cl fl LIM t h n) ih=_
 rw [e]
 show fT (put t d v) (fun t=>ih t h' n')=_
 rw [Zc9]
theorem Xjn {d:D} {g:G} {k:K3} {o:RP} {cl:Cl'} {ih:Bd} {t:FT} {h:HT} {n:Nat} (hw:Zf6 t g=.n):Yp5 (.q d g k o) ys cl fl ih t h n=ih (put t d .ud) h n:=by
 show Ypn ys cl fl d o ih t h n (Zf6 t g)=_
 rw [hw]
 show fT (put t d .ud) (fun t=>ih t h n)=_
 rw [Zc9]
theorem Zxi {p:Pa} {w:Bool} {t:FT} {y n:A} (h:Good (cG (tg t p) w y n)):(Zf6 t (.g p w)=.y/\Good y) ∨ (Zf6 t (.g p w)=.n/\Good n):=by
 have e:Zf6 t (.g p w)=match tg t p with | .b x=>bf (eqB x w) .y .n | .ud=>.n | _=>.u:=rfl
 rcases Xa6 h with ⟨x,e1,e2,h1⟩ | ⟨x,e1,e2,h1⟩ | ⟨e1,h1⟩
 ·left; rw [e,e1]; refine ⟨?_,h1⟩; show bf (eqB x w) W3.y .n=.y; rw [e2]; rfl
 ·right; rw [e,e1]; refine ⟨?_,h1⟩; show bf (eqB x w) W3.y .n=.n; rw [e2]; rfl
 ·right; rw [e,e1]; exact ⟨rfl,h1⟩
theorem Yg6 {g:G} {d:D} {k:K3} {o:RP} {r:Kt->Kt} {s:S3} (hr:Zwj ys fl r d o) (hs:SOk s fun t v=>put t d v):Yfw (gdW g r (qS s)) fun f=>Xhz ys fl f (.q d g k o):=by
 cases g with
 | no=>
  exact fun nx cl3 cl t3 t h3 h n hc hF hH e=>by
   obtain ⟨v,h',n',t3',h3',e1,hF',hH',h1⟩:=hr _ _ _ _ _ _ _ _ hc hF hH e
   exact ⟨_,h',n',t3',h3',fun ih=>Xfj rfl e1,hF',hH',h1⟩
 | g p w=>
  obtain ⟨g,e0,hg⟩:=Zka p
  show Yfw (@Gw.rec (fun _=>Lw) (fun g=>.mk (gdK g w r (qS s))) (Zp6 (Nat.sub (Pa.val p) 1))) _
  rw [e0]
  exact fun nx cl3 cl t3 t h3 h n hc hF hH e=>by
   rcases Zxi (hg _ _ _ hF e) with ⟨e1,h1⟩ | ⟨e1,h1⟩
   ·obtain ⟨v,h',n',t3',h3',e2,hF',hH',h2⟩:=hr _ _ _ _ _ _ _ _ hc hF hH h1
    exact ⟨_,h',n',t3',h3',fun ih=>Xfj e1 e2,hF',hH',h2⟩
   ·obtain ⟨t3',hF',h2⟩:=hs _ _ _ _ hF h1
    exact ⟨_,h,n,t3',h3,fun ih=>Xjn e1,hF',hH,h2⟩
theorem Yt1 (q:RQ):Yfw (lw1 ys fl q) fun f=>Xhz ys fl f q:=by
 obtain ⟨d,g,k,o⟩:=q
 obtain ⟨s,e1,hs⟩:=Zyo d
 show Yfw (@Sw.rec (fun _=>Lw) (fun s=>@Ow'.rec F3 H3 (fun _=>Lw) (fun f=>gdW g (qP f s) (qS s)) (fun f=>gdW g (qE f s) (qS s)) .no (ow ys fl o)) (Yqt d)) _
 rw [e1]
 have ho:=Yr1 (ys:=ys) (fl:=fl) o
 show Yfw (@Ow'.rec F3 H3 (fun _=>Lw) (fun f=>gdW g (qP f s) (qS s)) (fun f=>gdW g (qE f s) (qS s)) .no (ow ys fl o)) _
 revert ho
 cases ow ys fl o with
 | p f=>exact fun ho=>Yg6 (Yr0 ho hs) hs
 | e f=>exact fun ho=>Yg6 (Yh4 ho hs) hs
 | no=>exact fun _=>trivial
def LOk (ys:Ys) (fl:Nat) (f:Kt->Kt) (l:List RQ):Prop:=∀ nx cl3 cl t3 t h3 h n,Zjn fl cl3 cl->FR t3 t->Zbw h3 h->Good (f nx cl3 t3 h3 n) ->
 ∃ t' h' n' t3' h3',ops ys cl fl l t h n=.nx t' h' n'/\FR t3' t'/\Zbw h3' h'/\Good (nx cl3 t3' h3' n')
theorem Yr7:∀ l,Yfw (lw ys fl l) fun f=>LOk ys fl f l
 | []=>fun nx cl3 cl t3 t h3 h n _ hF hH e=>⟨t,h,n,t3,h3,rfl,hF,hH,e⟩
 | q::l=>by
  have h1:=Yt1 (ys:=ys) (fl:=fl) q
  have h2:=Yr7 l
  show Yfw (@Lw'.rec F3 H3 (fun _=>Lw) (fun a=>@Lw'.rec F3 H3 (fun _=>Lw) (fun b=>.mk (fun nx=>a (b nx))) .no (lw ys fl l)) .no (lw1 ys fl q)) _
  revert h1
  cases lw1 ys fl q with
  | no=>exact fun _=>trivial
  | mk a=>
   intro h1
   show Yfw (@Lw'.rec F3 H3 (fun _=>Lw) (fun b=>.mk (fun nx=>a (b nx))) .no (lw ys fl l)) _
   revert h2
   cases lw ys fl l with
   | no=>exact fun _=>trivial
   | mk b=>
    intro h2 nx cl3 cl t3 t h3 h n hc hF hH e
    obtain ⟨t',h',n',t3',h3',e1,hF',hH',h4⟩:=h1 _ _ _ _ _ _ _ _ hc hF hH e
    obtain ⟨t2,h2',n2,t32,h32,e2,hF2,hH2,h5⟩:=h2 _ _ _ _ _ _ _ _ hc hF' hH' h4
    exact ⟨t2,h2',n2,t32,h32,(e1 _).trans e2,hF2,hH2,h5⟩
/-! regions that draw -/
def HsRel:List H3->List HT->Prop
 | [],[]=>True
 | a::l,b::r=>Zbw a b/\HsRel l r
 | _,_=>False
theorem HsRel.length:∀ {a:List H3} {b:List HT},HsRel a b->a.length=b.length
 | [],[],_=>rfl
 | _::a,_::b,h=>by simp [HsRel.length h.2]
 | [],_::_,h=>h.elim
 | _::_,[],h=>h.elim
theorem Yvc {c:CK} {h3:H3} {h:HT} {j:Nat} {y:A} (hH:Zbw h3 h) (e:Good (ck1 c h3 j y)):Yqv h j c=true/\Good y:=by
 obtain ⟨p,q,b,o,g,m,v⟩:=c
 show bf (Nat.ble p j) (bf (Nat.ble j q) (gK false (hg h b) fun cs _=>eqV (rdV g m cs o) v) true) true=true/\Good y
 rcases Zaw e with ⟨e1,h1⟩ | ⟨e1,h1⟩
 ·rw [e1]
  rcases Zaw h1 with ⟨e2,h2⟩ | ⟨e2,h2⟩
  ·rw [e2]
   obtain ⟨cs,z,c3,e3,rc,_,h4,hmz⟩:=Zqe hH h2
   obtain ⟨_,_,h5⟩:=Zwr rc h4
   obtain ⟨e4,h6⟩:=Za2 h5
   rw [e3,Zky,Zky,Zma hmz]
   exact ⟨e4,h6⟩
  ·rw [e2]; exact ⟨rfl,h2⟩
 ·rw [e1]; exact ⟨rfl,h1⟩
theorem Yhg {h3:H3} {h:HT} {j:Nat} {y:A} (hH:Zbw h3 h):∀ {l:List CK},Good (ckA l h3 j y)->Zop l h j=true/\Good y
 | [],e=>⟨rfl,e⟩
 | c::l,e=>by
  obtain ⟨e1,h1⟩:=Yvc (y:=ckA l h3 j y) hH e
  obtain ⟨e2,h2⟩:=Yhg hH h1
  refine ⟨?_,h2⟩
  show bf (Yqv h j c) (Zop l h j) false=true
  rw [e1,e2]; rfl
theorem Yhf {l:List CK} {y:A}:∀ {a:List H3} {b:List HT},HsRel a b->Good (ckO a l y)->Zep b l=true/\Good y
 | [],[],_,e=>⟨rfl,e⟩
 | x::a,z::b,r,e=>by
  obtain ⟨e1,h1⟩:=Yhg (y:=ckO a l y) r.1 e
  obtain ⟨e2,h2⟩:=Yhf r.2 h1
  refine ⟨?_,h2⟩
  show bf (Zop l z b.length) (Zep b l) false=true
  rw [<- r.2.length,e1,e2]; rfl
 | [],_::_,r,_=>r.elim
 | _::_,[],r,_=>r.elim
theorem Zl2:∀ b:List HT,Zep b []=true
 | []=>rfl
 | _::b=>Zl2 b
theorem Yva {l:List CK} {y:A} {a:List H3} {b:List HT} (r:HsRel a b) (e:Good (ckT a l y)):Zep b l=true/\Good y:=by
 cases l with
 | nil=>exact ⟨Zl2 b,e⟩
 | cons c l=>exact Yhf r e
def Xh1 (ys:Ys) (fl:Nat) (f:Kd->Kd) (q:RQ):Prop:=∀ nx n0 cs hs3 hs cl3 cl t3 t h3 h n,Zjn fl cl3 cl->FR t3 t->Zbw h3 h->HsRel hs3 hs->Good (f nx n0 cs hs3 cl3 t3 h3 n) ->
 ∃ t' h' n' cs' hs' t3' h3' hs3',(∀ ih:Dd,dQ q ys cl fl n0 ih t h n cs hs=ih t' h' n' cs' hs')/\FR t3' t'/\Zbw h3' h'/\HsRel hs3' hs'/\Good (nx n0 cs' hs3' cl3 t3' h3' n')
def Zuv (w:Dv) (p:(Kd->Kd)->Prop):Prop:=match w with | .mk f=>p f | .no=>True
theorem dY {d:D} {g:G} {k:K3} {o:RP} {cl:Cl'} {ih:Dd} {t:FT} {h h':HT} {n n' n0:Nat} {v:RV} {cs:List CK} {hs:List HT} (hw:Zf6 t g=.y) (e:step o ys cl fl (Zel k n0) t h n=.ok v h' n') :
  dQ (.q d g k o) ys cl fl n0 ih t h n cs hs=@K3.rec (fun _=>BR) (ih (put t d v) h' n' cs hs) (ih (put t d v) h' n' cs hs) (fun p q=>gO (.bad [96]) (Yas p q o t n0 v cs) fun cs=>ih (put t d v) h' n' cs hs) (ih (put t d v) h' n' cs (h'::hs)) k:=by
 show dW ys cl fl n0 d k o ih t h n cs hs (Zf6 t g)=_
 rw [hw]
 show dOk d k o n0 t (step o ys cl fl (Zel k n0) t h n) cs hs ih=_
 rw [e]
 show fT (put t d v) (fun t'=>@K3.rec (fun _=>BR) (ih t' h' n' cs hs) (ih t' h' n' cs hs) (fun p q=>gO (BR.bad [96]) (Yas p q o t n0 v cs) fun cs=>ih t' h' n' cs hs) (ih t' h' n' cs (h'::hs)) k)=_
 rw [Zc9]
theorem dN {d:D} {g:G} {k:K3} {o:RP} {cl:Cl'} {ih:Dd} {t:FT} {h:HT} {n n0:Nat} {cs:List CK} {hs:List HT} (hw:Zf6 t g=.n) :
  dQ (.q d g k o) ys cl fl n0 ih t h n cs hs=@K3.rec (fun _=>BR) (ih (put t d .ud) h n cs hs) (ih (put t d .ud) h n cs hs) (fun _ _=>ih (put t d .ud) h n cs hs) (ih (put t d .ud) h n cs (h::hs)) k:=by
 show dW ys cl fl n0 d k o ih t h n cs hs (Zf6 t g)=_
 rw [hw]
 show fT (put t d .ud) (fun t=>@K3.rec (fun _=>BR) (ih t h n cs hs) (ih t h n cs hs) (fun _ _=>ih t h n cs hs) (ih t h n cs (h::hs)) k)=_
 rw [Zc9]
def Zlm (ys:Ys) (fl:Nat) (r:Kd->Kd) (d:D) (k:K3) (o:RP):Prop:=∀ nx n0 cs hs3 hs cl3 cl t3 t h3 h n,Zjn fl cl3 cl->FR t3 t->Zbw h3 h->HsRel hs3 hs->Good (r nx n0 cs hs3 cl3 t3 h3 n) ->
 ∃ v h' n' cs' hs' t3' h3' hs3',step o ys cl fl (Zel k n0) t h n=.ok v h' n'/\(∀ ih:Dd,@K3.rec (fun _=>BR) (ih (put t d v) h' n' cs hs) (ih (put t d v) h' n' cs hs) (fun p q=>gO (.bad [96]) (Yas p q o t n0 v cs) fun cs=>ih (put t d v) h' n' cs hs) (ih (put t d v) h' n' cs (h'::hs)) k=ih (put t d v) h' n' cs' hs')/\FR t3' (put t d v)/\Zbw h3' h'/\HsRel hs3' hs'/\Good (nx n0 cs' hs3' cl3 t3' h3' n')
def Zxe (r:Kd->Kd) (d:D) (k:K3):Prop:=∀ nx n0 cs hs3 hs cl3 t3 t h3 h n,FR t3 t->Zbw h3 h->HsRel hs3 hs->Good (r nx n0 cs hs3 cl3 t3 h3 n) ->
 ∃ cs' hs' t3' hs3',(∀ ih:Dd,@K3.rec (fun _=>BR) (ih (put t d .ud) h n cs hs) (ih (put t d .ud) h n cs hs) (fun _ _=>ih (put t d .ud) h n cs hs) (ih (put t d .ud) h n cs (h::hs)) k=ih (put t d .ud) h n cs' hs')/\FR t3' (put t d .ud)/\HsRel hs3' hs'/\Good (nx n0 cs' hs3' cl3 t3' h3 n)
theorem Zli {g:G} {d:D} {k:K3} {o:RP} {r s:Kd->Kd} (hr:Zlm ys fl r d k o) (hs:Zxe s d k):Zuv (gdV g r s) fun f=>Xh1 ys fl f (.q d g k o):=by
 cases g with
 | no=>
  exact fun nx n0 cs hs3 hs' cl3 cl t3 t h3 h n hc hF hH hq e=>by
   obtain ⟨v,h',n',cs',hs'',t3',h3',hs3',e1,e2,hF',hH',hq',h1⟩:=hr _ _ _ _ _ _ _ _ _ _ _ _ hc hF hH hq e
   exact ⟨_,h',n',cs',hs'',t3',h3',hs3',fun ih=>(dY rfl e1).trans (e2 ih),hF',hH',hq',h1⟩
 | g p w=>
  obtain ⟨g,e0,hg⟩:=Zka p
  show Zuv (@Gw.rec (fun _=>Dv) (fun g=>.mk (gdD g w r s)) (Zp6 (Nat.sub (Pa.val p) 1))) _
  rw [e0]
  exact fun nx n0 cs hs3 hs' cl3 cl t3 t h3 h n hc hF hH hq e=>by
   rcases Zxi (hg _ _ _ hF e) with ⟨e1,h1⟩ | ⟨e1,h1⟩
   ·obtain ⟨v,h',n',cs',hs'',t3',h3',hs3',e2,e3,hF',hH',hq',h2⟩:=hr _ _ _ _ _ _ _ _ _ _ _ _ hc hF hH hq h1
    exact ⟨_,h',n',cs',hs'',t3',h3',hs3',fun ih=>(dY e1 e2).trans (e3 ih),hF',hH',hq',h2⟩
   ·obtain ⟨cs',hs'',t3',hs3',e3,hF',hq',h2⟩:=hs _ _ _ _ _ _ _ _ _ _ _ hF hH hq h1
    exact ⟨_,h,n,cs',hs'',t3',h3,hs3',fun ih=>(dN e1).trans (e3 ih),hF',hH,hq',h2⟩
theorem Zrs {s:S3} {d:D} {k:K3} (hk:k ≠ .ef) (hs:SOk s fun t v=>put t d v):Zxe (skD s) d k:=fun nx n0 cs hs3 hs' cl3 t3 t h3 h n hF hH hq e=>by
 obtain ⟨t3',hF',h1⟩:=hs _ _ _ _ hF e
 refine ⟨cs,hs',t3',hs3,fun ih=>?_,hF',hq,h1⟩
 cases k <;> first | rfl | exact absurd rfl hk
theorem Yge {s:S3} {d:D} (hs:SOk s fun t v=>put t d v):Zxe (skE s) d .ef:=fun nx n0 cs hs3 hs' cl3 t3 t h3 h n hF hH hq e=>by
 obtain ⟨t3',hF',h1⟩:=hs _ _ _ _ hF e
 exact ⟨cs,h::hs',t3',h3::hs3,fun ih=>rfl,hF',⟨hH,hq⟩,h1⟩
theorem Ygw {r:Kt->Kt} {d:D} {o:RP} (hr:Zwj ys fl r d o):Zlm ys fl (liD r) d .nm o:=fun nx n0 cs hs3 hs cl3 cl t3 t h3 h n hc hF hH hq e=>by
 obtain ⟨v,h',n',t3',h3',e1,hF',hH',h1⟩:=hr _ _ _ _ _ _ _ _ hc hF hH e
 exact ⟨v,h',n',cs,hs,t3',h3',hs3,e1,fun ih=>rfl,hF',hH',hq,h1⟩
theorem Ygz {g:Bool} {m b o n0:Nat} {a:RO} {cl:Cl'} {t:FT} {h h':HT} {n n':Nat} {v:RV} (ea:ev t a=.p b o) (hb:Nat.ble (b + 1) n0=true) (e:step (.ld g m a) ys cl fl LIM t h n=.ok v h' n'):step (.ld g m a) ys cl fl n0 t h n=.ok v h' n':=by
 have e1:gP (SR.bad [10]) (ev t a) (fun b o=>bf (Nat.ble (Nat.succ b) LIM) (gK (SR.bad [7]) (hg h b) fun cs _=>ldC g m cs o h n) (SR.bad [11]))=.ok v h' n':=e
 show gP (SR.bad [10]) (ev t a) (fun b o=>bf (Nat.ble (Nat.succ b) n0) (gK (SR.bad [7]) (hg h b) fun cs _=>ldC g m cs o h n) (SR.bad [11]))=.ok v h' n'
 rw [ea] at e1 ⊢
 have e2:bf (Nat.ble (b + 1) LIM) (gK (SR.bad [7]) (hg h b) fun cs _=>ldC g m cs o h n) (SR.bad [11])=.ok v h' n':=e1
 show bf (Nat.ble (b + 1) n0) (gK (SR.bad [7]) (hg h b) fun cs _=>ldC g m cs o h n) (SR.bad [11])=.ok v h' n'
 rw [hb]
 cases hl:Nat.ble (b + 1) LIM with
 | true=>rw [hl] at e2; exact e2
 | false=>rw [hl] at e2; cases e2
theorem Xaj {g:Bool} {m:Nat} {a:RO} {ga:G3} {r:Kt->Kt} {d:D} (hg:GOk ga fun t=>ev t a) (hr:Zwj ys fl r d (.ld g m a)):Zlm ys fl (Yw8 ga (liD r)) d .lm (.ld g m a):=fun nx n0 cs hs3 hs cl3 cl t3 t h3 h n hc hF hH hq e=>by
 obtain ⟨b,o,e1,h1⟩:=Zoq (hg _ _ _ hF e)
 obtain ⟨e2,h2⟩:=Za2 h1
 obtain ⟨v,h',n',t3',h3',e3,hF',hH',h4⟩:=hr _ _ _ _ _ _ _ _ hc hF hH h2
 exact ⟨v,h',n',cs,hs,t3',h3',hs3,Ygz e1 e2 e3,fun ih=>rfl,hF',hH',hq,h4⟩
theorem Yvb {p q:Nat} {g:Bool} {m:Nat} {a:RO} {ga:G3} {f:E3} {s:S3} {d:D} (hg:GOk ga fun t=>ev t a) (hf:EOk ys fl f (.ld g m a)) (hs:SOk s fun t v=>put t d v):Zlm ys fl (ckD p q g m ga f s) d (.ck p q) (.ld g m a):=fun nx n0 cs hs3 hs' cl3 cl t3 t h3 h n hc hF hH hq e=>by
 obtain ⟨b,o,e1,h1⟩:=Zoq (hg _ _ _ hF e)
 obtain ⟨e2,h2⟩:=Za2 h1
 obtain ⟨v,h',n',h3',e3,hH',h4⟩:=hf _ _ _ _ _ _ _ _ hc hF hH h2
 obtain ⟨t3',hF',h5⟩:=hs _ _ _ _ hF h4
 have e1:ev t a=.p b o:=e1
 refine ⟨v,h',n',.k p q b o g m v::cs,hs',t3',h3',hs3,Ygz e1 e2 e3,fun ih=>?_,hF',hH',hq,h5⟩
 show gO (BR.bad [96]) (gP none (ev t a) fun b o=>bf (Nat.ble (Nat.succ b) n0) (some (.k p q b o g m v::cs)) none) (fun cs=>ih (put t d v) h' n' cs hs')=_
 rw [e1]
 show gO (BR.bad [96]) (bf (Nat.ble (b + 1) n0) (some (.k p q b o g m v::cs)) none) (fun cs=>ih (put t d v) h' n' cs hs')=_
 rw [e2]
 rfl
theorem Yun {f:E3} {s:S3} {d:D} {o:RP} (hf:EOk ys fl f o) (hs:SOk s fun t v=>put t d v):Zlm ys fl (efD f s) d .ef o:=fun nx n0 cs hs3 hs' cl3 cl t3 t h3 h n hc hF hH hq e=>by
 obtain ⟨v,h',n',h3',e3,hH',h4⟩:=hf _ _ _ _ _ _ _ _ hc hF hH e
 obtain ⟨t3',hF',h5⟩:=hs _ _ _ _ hF h4
 exact ⟨v,h',n',cs,h'::hs',t3',h3',h3'::hs3,e3,fun ih=>rfl,hF',hH',⟨hH',hq⟩,h5⟩
theorem Yum {f:P3} {s:S3} {d:D} {o:RP} (hf:POk ys f o) (hs:SOk s fun t v=>put t d v):Zlm ys fl (efP f s) d .ef o:=fun nx n0 cs hs3 hs' cl3 cl t3 t h3 h n hc hF hH hq e=>by
 obtain ⟨v,e3,h4⟩:=hf _ _ _ hF e
 obtain ⟨t3',hF',h5⟩:=hs _ _ _ _ hF h4
 exact ⟨v,h,n,cs,h::hs',t3',h3,h3::hs3,e3 _ _ _ _ _,fun ih=>rfl,hF',hH,⟨hH,hq⟩,h5⟩
theorem Yho {o:RP} {f:Bool->Nat->G3->Dv} {p:(Kd->Kd)->Prop} (h:∀ g m a ga,o=.ld g m a->GOk ga (fun t=>ev t a)->Zuv (f g m ga) p):Zuv (adW o f) p:=by
 unfold adW
 split
 ·rename_i g m a
  obtain ⟨ga,e,hg⟩:=Zgr a
  rw [e]
  exact h g m a ga rfl hg
 ·trivial
theorem Yu6 (q:RQ):Zuv (dw1 ys fl q) fun f=>Xh1 ys fl f q:=by
 obtain ⟨d,g,k,o⟩:=q
 obtain ⟨s,e1,hs⟩:=Zyo d
 have e0:dw1 ys fl (.q d g k o)=@Sw.rec (fun _=>Dv) (fun s=>@K3.rec (fun _=>Dv)
  (@Ow'.rec F3 H3 (fun _=>Dv) (fun f=>gdV g (liD (qP f s)) (skD s)) (fun f=>gdV g (liD (qE f s)) (skD s)) .no (ow ys fl o))
  (@Ow'.rec F3 H3 (fun _=>Dv) (fun _=>.no) (fun f=>adW o fun _ _ a=>gdV g (Yw8 a (liD (qE f s))) (skD s)) .no (ow ys fl o))
  (fun p q=>@Ow'.rec F3 H3 (fun _=>Dv) (fun _=>.no) (fun f=>adW o fun ag m a=>gdV g (ckD p q ag m a f s) (skD s)) .no (ow ys fl o))
  (@Ow'.rec F3 H3 (fun _=>Dv) (fun f=>gdV g (efP f s) (skE s)) (fun f=>gdV g (efD f s) (skE s)) .no (ow ys fl o)) k) (Yqt d):=rfl
 rw [e0,e1]
 have ho:=Yr1 (ys:=ys) (fl:=fl) o
 revert ho
 cases k with
 | nm=>
  show Zci ys fl (ow ys fl o) o->Zuv (@Ow'.rec F3 H3 (fun _=>Dv) (fun f=>gdV g (liD (qP f s)) (skD s)) (fun f=>gdV g (liD (qE f s)) (skD s)) .no (ow ys fl o)) _
  cases ow ys fl o with
  | p f=>exact fun ho=>Zli (Ygw (Yr0 ho hs)) (Zrs (by simp) hs)
  | e f=>exact fun ho=>Zli (Ygw (Yh4 ho hs)) (Zrs (by simp) hs)
  | no=>exact fun _=>trivial
 | lm=>
  show Zci ys fl (ow ys fl o) o->Zuv (@Ow'.rec F3 H3 (fun _=>Dv) (fun _=>.no) (fun f=>adW o fun _ _ a=>gdV g (Yw8 a (liD (qE f s))) (skD s)) .no (ow ys fl o)) _
  cases ow ys fl o with
  | p f=>exact fun ho=>trivial
  | e f=>exact fun ho=>Yho fun ag m a ga e hg=>by subst e; exact Zli (Xaj hg (Yh4 ho hs)) (Zrs (by simp) hs)
  | no=>exact fun _=>trivial
 | ck p q=>
  show Zci ys fl (ow ys fl o) o->Zuv (@Ow'.rec F3 H3 (fun _=>Dv) (fun _=>.no) (fun f=>adW o fun ag m a=>gdV g (ckD p q ag m a f s) (skD s)) .no (ow ys fl o)) _
  cases ow ys fl o with
  | p f=>exact fun ho=>trivial
  | e f=>exact fun ho=>Yho fun ag m a ga e hg=>by subst e; exact Zli (Yvb hg ho hs) (Zrs (by simp) hs)
  | no=>exact fun _=>trivial
 | ef=>
  show Zci ys fl (ow ys fl o) o->Zuv (@Ow'.rec F3 H3 (fun _=>Dv) (fun f=>gdV g (efP f s) (skE s)) (fun f=>gdV g (efD f s) (skE s)) .no (ow ys fl o)) _
  cases ow ys fl o with
  | p f=>exact fun ho=>Zli (Yum ho hs) (Yge hs)
  | e f=>exact fun ho=>Zli (Yun ho hs) (Yge hs)
  | no=>exact fun _=>trivial
def DOk (ys:Ys) (fl:Nat) (f:Kd->Kd) (l:List RQ):Prop:=∀ nx n0 cs hs3 hs cl3 cl t3 t h3 h n,Zjn fl cl3 cl->FR t3 t->Zbw h3 h->HsRel hs3 hs->Good (f (Xhj nx) n0 cs hs3 cl3 t3 h3 n) ->
 ∃ t' h' n' t3' h3',Zf9 ys cl fl n0 l t h n cs hs=.nx t' h' n'/\FR t3' t'/\Zbw h3' h'/\Good (nx cl3 t3' h3' n')
theorem Ysk:∀ l,Zuv (dw ys fl l) fun f=>DOk ys fl f l
 | []=>fun nx n0 cs hs3 hs cl3 cl t3 t h3 h n _ hF hH hq e=>by
  obtain ⟨e1,h1⟩:=Yva hq e
  obtain ⟨e2,h2⟩:=Za2 h1
  refine ⟨t,h,n,t3,h3,?_,hF,hH,h2⟩
  show bf (Zep hs cs) (bf (Nat.ble n 8388608) (.nx t h n) (BR.bad [93])) (BR.bad [94])=_
  rw [e1,e2]; rfl
 | q::l=>by
  have h1:=Yu6 (ys:=ys) (fl:=fl) q
  have h2:=Ysk l
  show Zuv (@Dv'.rec F3 H3 (fun _=>Dv) (fun a=>@Dv'.rec F3 H3 (fun _=>Dv) (fun b=>.mk (fun nx=>a (b nx))) .no (dw ys fl l)) .no (dw1 ys fl q)) _
  revert h1
  cases dw1 ys fl q with
  | no=>exact fun _=>trivial
  | mk a=>
   intro h1
   show Zuv (@Dv'.rec F3 H3 (fun _=>Dv) (fun b=>.mk (fun nx=>a (b nx))) .no (dw ys fl l)) _
   revert h2
   cases dw ys fl l with
   | no=>exact fun _=>trivial
   | mk b=>
    intro h2 nx n0 cs hs3 hs cl3 cl t3 t h3 h n hc hF hH hq e
    obtain ⟨t',h',n',cs',hs',t3',h3',hs3',e1,hF',hH',hq',h4⟩:=h1 _ _ _ _ _ _ _ _ _ _ _ _ hc hF hH hq e
    obtain ⟨t2,h2',n2,t32,h32,e2,hF2,hH2,h5⟩:=h2 _ _ _ _ _ _ _ _ _ _ _ _ hc hF' hH' hq' h4
    exact ⟨t2,h2',n2,t32,h32,(e1 _).trans e2,hF2,hH2,h5⟩
end
end Go.Rn
