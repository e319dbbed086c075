/-
  One text of a symbolic evaluator Zfe the model, shown sound once for every program: no statement is claimed here.
-/
import Derived.Test.YthcnhbclagegeaaDoorRqJ
import Derived.Test.YthcnhbclagegeaaDoorRnZg
import Derived.IntWalk
namespace Go.Rn
attribute [local irreducible] Zla CT9 Zix Zfh
section
variable {ys:Ys} {fl:Nat}
def Yfx (r:BR) (nx:Kt) (ex:Nat->Kt) (rt:Kt) (cl3:Cl3):Prop:=
 (∃ t' h' n' t3' h3',r=.nx t' h' n'/\FR t3' t'/\Zbw h3' h'/\Good (nx cl3 t3' h3' n')) ∨
 (∃ id t' h' n' t3' h3',r=.ex id t' h' n'/\FR t3' t'/\Zbw h3' h'/\Good (ex id cl3 t3' h3' n')) ∨
 (∃ t' h' n' t3' h3',r=.rt t' h' n'/\FR t3' t'/\Zbw h3' h'/\Good (rt cl3 t3' h3' n'))
def Yq1 (ys:Ys) (fl:Nat) (f:Kt->(Nat->Kt)->Kt->Kt) (c:RC):Prop:=∀ nx ex rt cl3 cl t3 t h3 h n,Zjn fl cl3 cl->FR t3 t->Zbw h3 h->Good (f nx ex rt cl3 t3 h3 n)->Yfx (code ys cl fl c t h n) nx ex rt cl3
def Zuz (w:Cw) (p:(Kt->(Nat->Kt)->Kt->Kt)->Prop):Prop:=match w with | .mk f=>p f | .no=>True
/-! Zd8,one after the other -/
noncomputable def Yak (body:Bd):Nat->Bd
 | 0=>.nx
 | m + 1=>fun t h n=>andThen (body t h n) (Yak body m)
theorem Zoa (r:BR) (a b:Bd):andThen (andThen r a) b=andThen r (fun t h n=>andThen (a t h n) b):=by cases r <;> rfl
theorem Zs2 (body:Bd):∀ a b t h n,Yak body (a + b) t h n=andThen (Yak body a t h n) (Yak body b)
 | 0,b,t,h,n=>by rw [Nat.zero_add]; rfl
 | a + 1,b,t,h,n=>by
  rw [show a + 1 + b=(a + b) + 1 by omega]
  show andThen (body t h n) (Yak body (a + b))=andThen (andThen (body t h n) (Yak body a)) (Yak body b)
  rw [Zoa]
  congr 1
  funext t h n
  exact Zs2 body a b t h n
theorem Zuq (r:BR):andThen r .nx=r:=by cases r <;> rfl
theorem Zgx (body:Bd):∀ k t h n,Zd8 body k t h n=Yak body (2 ^ k) t h n
 | 0,t,h,n=>(Zuq _).symm
 | k + 1,t,h,n=>by
  show andThen (Zd8 body k t h n) (Zd8 body k)=_
  rw [show 2 ^ (k + 1)=2 ^ k + 2 ^ k by rw [Nat.pow_succ]; omega,Zs2,Zgx body k t h n]
  congr 1
  funext t h n
  exact Zgx body k t h n
theorem Zx5 {a:Kt->(Nat->Kt)->Kt->Kt} {c:RC} (ha:Yq1 ys fl a c) {ex:Nat->Kt} {rt:Kt} {cl3:Cl3} {cl:Cl'} (hc:Zjn fl cl3 cl):∀ m t3 t h3 h n,FR t3 t->Zbw h3 h->Good (Yaz a ex rt m cl3 t3 h3 n)->Yfx (Yak (code ys cl fl c) m t h n) noK ex rt cl3
 | 0,_,_,_,_,_,_,_,e=>Good.no e
 | m + 1,t3,t,h3,h,n,hF,hH,e=>by
  show Yfx (andThen (code ys cl fl c t h n) (Yak (code ys cl fl c) m)) noK ex rt cl3
  rcases ha (Yaz a ex rt m) ex rt _ _ _ _ _ _ _ hc hF hH e with ⟨t',h',n',t3',h3',e1,hF',hH',h1⟩ | ⟨id,t',h',n',t3',h3',e1,hF',hH',h1⟩ | ⟨t',h',n',t3',h3',e1,hF',hH',h1⟩
  ·rw [e1]; exact Zx5 ha hc m _ _ _ _ _ hF' hH' h1
  ·rw [e1]; exact .inr (.inl ⟨id,t',h',n',t3',h3',rfl,hF',hH',h1⟩)
  ·rw [e1]; exact .inr (.inr ⟨t',h',n',t3',h3',rfl,hF',hH',h1⟩)
theorem Yvm {v:RV} {nx:A} {ex:Nat->A} {rt:A} (e:Good (cSt v nx ex rt)):(v=.b false/\Good nx) ∨ (∃ id o,v=.p id o/\Good (ex id)) ∨ (v=.nil/\Good rt):=by
 cases v <;> first | exact Good.no e | exact .inr (.inl ⟨_,_,rfl,e⟩) | exact .inr (.inr ⟨rfl,e⟩) | skip
 rename_i x
 rcases Zaw (show Good (ifA x .no nx) from e) with ⟨_,h1⟩ | ⟨rfl,h1⟩
 ·exact Good.no h1
 ·exact .inl ⟨rfl,h1⟩
theorem Ys5 {g:RO} {key:Nat} {sv:List Pa} {ga gc:G3} (hga:GOk ga fun t=>ev t g) (hgc:COk gc fun t=>evL t (sv.map RO.t)):Yq1 ys fl (rfK fl ga gc key) (.rf g key sv):=fun nx ex rt cl3 cl t3 t h3 h n hc hF hH e=>by
 obtain ⟨f,q,e1,h1⟩:=Zt0 (hga _ _ _ hF e)
 have e1:ev t g=.fn f q:=e1
 rcases Zaw h1 with ⟨_,h2⟩ | ⟨e2,h2⟩
 ·exact Good.no h2
 obtain ⟨hu,h4⟩:=hgc _ _ _ hF h2
 have hu:evL t (sv.map RO.t) ≠ .un:=hu
 obtain ⟨e3,h5⟩:=Za2 h4
 obtain ⟨m,_,c3,rc,h6⟩:=Zh7 Zll h5
 obtain ⟨_,g1,k1,k2⟩:=Zei rc h6
 obtain ⟨c4,rc4,k3⟩:=k2 _ k1
 obtain ⟨_,b3,g',_,k4,k5⟩:=Zeh hH k3
 obtain ⟨h3',r',k6⟩:=k5 (mpB c4) (.bk _ Zas) (.inr ⟨rfl,c4,rfl,rc4⟩) k4
 have k7:=Zat (k:=fun m=>frc (Nat.add 33554432 key) fun fk=>cl3 f (.cons (.fn fk (.cons (.mp n) .nil)) q) h3' m (Zwo n t3 nx ex rt cl3)) k6
 have k8:=Zat (k:=fun fk=>cl3 f (.cons (.fn fk (.cons (.mp n) .nil)) q) h3' (Nat.succ n) (Zwo n t3 nx ex rt cl3)) k7
 obtain ⟨v,h',n',h3'',e4,r'',h9⟩:=hc _ _ _ _ _ _ r' k8
 obtain ⟨b5,rb,_,h10⟩:=Zj9 r'' h9
 obtain ⟨c5,c35,e5,rc5,h11⟩:=Yqx rb h10
 obtain ⟨_,b4,g4,_,h12,h13⟩:=Zeh r'' h11
 obtain ⟨h4',r4,h14⟩:=h13 noB .no rfl h12
 obtain ⟨k,s,e6,h15⟩:=Zt0 (Ze0 rc5 h14)
 have st:code ys cl fl (.rf g key sv) t h n=Zmh (cg c5 0) t (hst h' .no n) n':=by
  show gF (BR.bad [180]) (ev t g) (fun f c=>bf (Nat.ble BND f) (BR.bad [181]) (nU (BR.bad [182]) (evL t (sv.map RO.t)) fun vs=>bf (Nat.ble fl n)
   (fT (lay (.cons .np vs) ce 0) fun cs=>fT (cst cs (.fn key (.b false)) 0) fun cs=>fT (hst h (.bk cs Zas) n) fun h=>Yh3 n t (cl f (.cons (.fn (Nat.add 33554432 key) (.cons (.mp n) .nil)) c) fl h (Nat.succ n))) (BR.bad [188])))=_
  rw [e1,Xar,e2]
  show nU (BR.bad [182]) (evL t (sv.map RO.t)) _=_
  rw [Zb0 hu,e3,Zky,Zc9,Zc9,Zc9]
  show Yh3 n t (cl f (.cons (.fn (Nat.add 33554432 key) (.cons (.mp n) .nil)) q) fl _ (Nat.succ n))=_
  rw [e4]
  show gMK (BR.bad [183]) (hg h' n) _=_
  rw [e5,Zlj,Zc9]
 rw [st,e6]
 rcases Yvm h15 with ⟨rfl,h16⟩ | ⟨id,o,rfl,h16⟩ | ⟨rfl,h16⟩
 ·exact .inl ⟨t,_,_,t3,h4',rfl,hF,r4,h16⟩
 ·exact .inr (.inl ⟨id,t,_,_,t3,h4',rfl,hF,r4,h16⟩)
 ·exact .inr (.inr ⟨t,_,_,t3,h4',rfl,hF,r4,h16⟩)
theorem Zn0 (c:RC):Zuz (Zch ys fl c) fun f=>Yq1 ys fl f c:=by
 induction c with
 | sk=>exact fun nx ex rt cl3 cl t3 t h3 h n hc hF hH e=>.inl ⟨t,h,n,t3,h3,rfl,hF,hH,e⟩
 | rg l=>
  have h1:=Yr7 (ys:=ys) (fl:=fl) l
  show Zuz (@Lw'.rec F3 H3 (fun _=>Cw) (fun a=>.mk (fun nx _ _=>a nx)) .no (lw ys fl l)) _
  revert h1
  cases lw ys fl l with
  | no=>exact fun _=>trivial
  | mk a=>exact fun h1 nx ex rt cl3 cl t3 t h3 h n hc hF hH e=>.inl (h1 _ _ _ _ _ _ _ _ hc hF hH e)
 | dr l=>
  have h1:=Ysk (ys:=ys) (fl:=fl) l
  show Zuz (@Dv'.rec F3 H3 (fun _=>Cw) (fun a=>.mk (fun nx _ _=>drK a nx)) .no (dw ys fl l)) _
  revert h1
  cases dw ys fl l with
  | no=>exact fun _=>trivial
  | mk a=>exact fun h1 nx ex rt cl3 cl t3 t h3 h n hc hF hH e=>.inl (h1 nx n [] [h3] [h] _ _ _ _ _ _ _ hc hF hH ⟨hH,trivial⟩ e)
 | sq a b iha ihb=>
  show Zuz (@Cw'.rec F3 H3 (fun _=>Cw) (fun a=>@Cw'.rec F3 H3 (fun _=>Cw) (fun b=>.mk (sqK a b)) .no (Zch ys fl b)) .no (Zch ys fl a)) _
  revert iha
  cases Zch ys fl a with
  | no=>exact fun _=>trivial
  | mk fa=>
   intro ha
   show Zuz (@Cw'.rec F3 H3 (fun _=>Cw) (fun b=>.mk (sqK fa b)) .no (Zch ys fl b)) _
   revert ihb
   cases Zch ys fl b with
   | no=>exact fun _=>trivial
   | mk fb=>
    intro hb nx ex rt cl3 cl t3 t h3 h n hc hF hH e
    show Yfx (andThen (code ys cl fl a t h n) (code ys cl fl b)) nx ex rt cl3
    rcases ha (fb nx ex rt) ex rt _ _ _ _ _ _ _ hc hF hH e with ⟨t',h',n',t3',h3',e1,hF',hH',h1⟩ | ⟨id,t',h',n',t3',h3',e1,hF',hH',h1⟩ | ⟨t',h',n',t3',h3',e1,hF',hH',h1⟩
    ·rw [e1]; exact hb nx ex rt _ _ _ _ _ _ _ hc hF' hH' h1
    ·rw [e1]; exact .inr (.inl ⟨id,t',h',n',t3',h3',rfl,hF',hH',h1⟩)
    ·rw [e1]; exact .inr (.inr ⟨t',h',n',t3',h3',rfl,hF',hH',h1⟩)
 | cd c a b iha ihb=>
  obtain ⟨g,e0,hg⟩:=Zgr c
  show Zuz (@Gw.rec (fun _=>Cw) (fun g=>@Cw'.rec F3 H3 (fun _=>Cw) (fun a=>@Cw'.rec F3 H3 (fun _=>Cw) (fun b=>.mk (fun nx ex rt=>cdK g (a nx ex rt) (b nx ex rt))) .no (Zch ys fl b)) .no (Zch ys fl a)) (Ztn c)) _
  rw [e0]
  show Zuz (@Cw'.rec F3 H3 (fun _=>Cw) (fun a=>@Cw'.rec F3 H3 (fun _=>Cw) (fun b=>.mk (fun nx ex rt=>cdK g (a nx ex rt) (b nx ex rt))) .no (Zch ys fl b)) .no (Zch ys fl a)) _
  revert iha
  cases Zch ys fl a with
  | no=>exact fun _=>trivial
  | mk fa=>
   intro ha
   show Zuz (@Cw'.rec F3 H3 (fun _=>Cw) (fun b=>.mk (fun nx ex rt=>cdK g (fa nx ex rt) (b nx ex rt))) .no (Zch ys fl b)) _
   revert ihb
   cases Zch ys fl b with
   | no=>exact fun _=>trivial
   | mk fb=>
    intro hb nx ex rt cl3 cl t3 t h3 h n hc hF hH e
    obtain ⟨x,e1,h1⟩:=Zmd (hg _ _ _ hF e)
    have e1:ev t c=.b x:=e1
    show Yfx (gB (fun _ _ _=>.bad [98]) (ev t c) (fun x=>bf x (code ys cl fl a) (code ys cl fl b)) t h n) nx ex rt cl3
    rw [e1]
    rcases Zaw h1 with ⟨rfl,h2⟩ | ⟨rfl,h2⟩
    ·exact ha nx ex rt _ _ _ _ _ _ _ hc hF hH h2
    ·exact hb nx ex rt _ _ _ _ _ _ _ hc hF hH h2
 | bl id a iha=>
  show Zuz (@Cw'.rec F3 H3 (fun _=>Cw) (fun a=>.mk (fun nx ex rt=>a nx (exU ex id nx) rt)) .no (Zch ys fl a)) _
  revert iha
  cases Zch ys fl a with
  | no=>exact fun _=>trivial
  | mk fa=>
   intro ha nx ex rt cl3 cl t3 t h3 h n hc hF hH e
   show Yfx (blC (code ys cl fl a t h n) id) nx ex rt cl3
   rcases ha nx (exU ex id nx) rt _ _ _ _ _ _ _ hc hF hH e with ⟨t',h',n',t3',h3',e1,hF',hH',h1⟩ | ⟨j,t',h',n',t3',h3',e1,hF',hH',h1⟩ | ⟨t',h',n',t3',h3',e1,hF',hH',h1⟩
   ·rw [e1]; exact .inl ⟨t',h',n',t3',h3',rfl,hF',hH',h1⟩
   ·rw [e1]
    have h1:Good (ifK (Nat.beq j id) nx (ex j) cl3 t3' h3' n'):=h1
    show Yfx (bf (Nat.beq j id) (.nx t' h' n') (.ex j t' h' n')) nx ex rt cl3
    cases hj:Nat.beq j id with
    | true=>rw [hj] at h1; exact .inl ⟨t',h',n',t3',h3',rfl,hF',hH',h1⟩
    | false=>rw [hj] at h1; exact .inr (.inl ⟨j,t',h',n',t3',h3',rfl,hF',hH',h1⟩)
   ·rw [e1]; exact .inr (.inr ⟨t',h',n',t3',h3',rfl,hF',hH',h1⟩)
 | lp a iha=>
  show Zuz (@Cw'.rec F3 H3 (fun _=>Cw) (fun a=>.mk (fun _ ex rt=>Yaz a ex rt 1048576)) .no (Zch ys fl a)) _
  revert iha
  cases Zch ys fl a with
  | no=>exact fun _=>trivial
  | mk fa=>
   intro ha nx ex rt cl3 cl t3 t h3 h n hc hF hH e
   show Yfx (lpC (Zd8 (code ys cl fl a) 20 t h n)) nx ex rt cl3
   have h0:=Zx5 ha hc 1048576 _ _ _ _ _ hF hH e
   rw [Zgx,show (2:Nat) ^ 20=1048576 by decide]
   rcases h0 with ⟨t',h',n',t3',h3',e1,hF',hH',h1⟩ | ⟨j,t',h',n',t3',h3',e1,hF',hH',h1⟩ | ⟨t',h',n',t3',h3',e1,hF',hH',h1⟩
   ·exact Good.no h1
   ·rw [e1]; exact .inr (.inl ⟨j,t',h',n',t3',h3',rfl,hF',hH',h1⟩)
   ·rw [e1]; exact .inr (.inr ⟨t',h',n',t3',h3',rfl,hF',hH',h1⟩)
 | ex id=>exact fun nx ex rt cl3 cl t3 t h3 h n hc hF hH e=>.inr (.inl ⟨id,t,h,n,t3,h3,rfl,hF,hH,e⟩)
 | rt=>exact fun nx ex rt cl3 cl t3 t h3 h n hc hF hH e=>.inr (.inr ⟨t,h,n,t3,h3,rfl,hF,hH,e⟩)
 | rf g key sv=>
  obtain ⟨ga,e0,hga⟩:=Zgr g
  obtain ⟨gc,e1,hgc⟩:=Zw5 (sv.map RO.t)
  show Zuz (@Gw.rec (fun _=>Cw) (fun g=>@Gw.rec (fun _=>Cw) (fun c=>.mk (rfK fl g c key)) (evw (sv.map RO.t))) (Ztn g)) _
  rw [e0,e1]
  exact Ys5 hga hgc
/-! calls -/
def ZOk (z:RV->F3->(F3->A)->A) (np i:Nat):Prop:=∀ a t3 t k,FR t3 t->Good (z a t3 k)->Zav a=some np/\∃ t3',FR t3' (lay a t i)/\Good (k t3')
theorem Zy2:∀ np i,∃ z,Yxm np i=.mk z/\ZOk z np i
 | 0,i=>⟨Yxn,rfl,fun a t3 t k hF e=>by
   rcases Zeb e with ⟨rfl,h1⟩ | ⟨_,_,_,h1⟩
   ·exact ⟨rfl,t3,hF,h1⟩
   ·exact Good.no h1⟩
 | np + 1,i=>by
  obtain ⟨z,e1,hz⟩:=Zy2 np (i + 1)
  obtain ⟨s,e2,hs⟩:=Ykr i
  refine ⟨Ypv s z,?_,fun a t3 t k hF e=>?_⟩
  ·show @Sw.rec (fun _=>Zw) (fun s=>@Zw'.rec F3 (fun _=>Zw) (fun z=>.mk (Ypv s z)) (Yxm np (i + 1))) (Ztm i)=_
   rw [e1,e2]
  ·obtain ⟨x,r,rfl,h1⟩:=Zf7 e
   obtain ⟨t3',hF',h2⟩:=hs _ _ _ _ hF h1
   obtain ⟨e3,t3'',hF'',h4⟩:=hz _ _ _ _ hF' h2
   refine ⟨?_,t3'',?_,h4⟩
   ·show gO none (Zav r) (fun n=>some (Nat.succ n))=_
    rw [e3]; rfl
   ·show FR t3'' (fT (cst t x i) fun t=>lay r t (i + 1))
    rw [Zc9]; exact hF''
def ROk (r:F3->H3->(RV->A)->A) (l:List RS):Prop:=∀ t3 t h3 h k,FR t3 t->Zbw h3 h->Good (r t3 h3 k)->res t h l ≠ .un/\Good (k (res t h l))
theorem Zqu:∀ l,∃ r,Yp3 l=.mk r/\ROk r l
 | []=>⟨_,rfl,fun _ _ _ _ _ _ _ e=>⟨by show RV.nil ≠ .un; simp,e⟩⟩
 | .t p::l=>by
  obtain ⟨r,e1,hr⟩:=Zqu l
  obtain ⟨g,e2,hg⟩:=Zka p
  refine ⟨rsT g r,?_,fun t3 t h3 h k hF hH e=>?_⟩
  ·show @Rw'.rec F3 H3 (fun _=>Rw) (fun r=>@Gw.rec (fun _=>Rw) (fun g=>.mk (rsT g r)) (Zp6 (Nat.sub (Pa.val p) 1))) (Yp3 l)=_
   rw [e1,e2]
  ·obtain ⟨h1,h2⟩:=Zfd (hg _ _ _ hF e)
   obtain ⟨h4,h5⟩:=hr _ _ _ _ _ hF hH h2
   show Zd7 (tg t p) (res t h l) ≠ .un/\Good (k (Zd7 (tg t p) (res t h l)))
   rw [Zh8 h1 h4]
   exact ⟨Yv0,h5⟩
 | .c p ag m::l=>by
  obtain ⟨r,e1,hr⟩:=Zqu l
  obtain ⟨g,e2,hga⟩:=Zka p
  refine ⟨rsC g ag m r,?_,fun t3 t h3 h k hF hH e=>?_⟩
  ·show @Rw'.rec F3 H3 (fun _=>Rw) (fun r=>@Gw.rec (fun _=>Rw) (fun g=>.mk (rsC g ag m r)) (Zp6 (Nat.sub (Pa.val p) 1))) (Yp3 l)=_
   rw [e1,e2]
  ·obtain ⟨b,o,e3,h1⟩:=Zoq (hga _ _ _ hF e)
   obtain ⟨cs,z,c3,e4,rc,_,h2,hmz⟩:=Zqe hH h1
   obtain ⟨_,hu,h4⟩:=Zwr rc h2
   obtain ⟨h5,h6⟩:=hr _ _ _ _ _ hF hH h4
   have e3:tg t p=.p b o:=e3
   have e5:Ypm h (tg t p) ag m=rdV ag m cs o:=by
    show gP .un (tg t p) (fun b o=>gK .un (hg h b) fun cs _=>bf ag (nU .un (rd cs m o) fun c=>.agg c) (cg cs o))=_
    rw [e3]
    show gK .un (hg h b) (fun cs _=>bf ag (nU .un (rd cs m o) fun c=>.agg c) (cg cs o))=_
    rw [e4,Zma hmz]
    rfl
   show Zd7 (Ypm h (tg t p) ag m) (res t h l) ≠ .un/\Good (k (Zd7 (Ypm h (tg t p) ag m) (res t h l)))
   rw [e5,Zh8 hu h5]
   exact ⟨Yv0,h6⟩
theorem Zxy {r:F3->H3->(RV->A)->A} {l:List RS} (hr:ROk r l) {k:KV} {cl3:Cl3} {t3:F3} {t:FT} {h3:H3} {h:HT} {n:Nat} (hF:FR t3 t) (hH:Zbw h3 h) (e:Good (Yxu r k cl3 t3 h3 n)):∃ v,ret t h n l=.ok v h n/\Good (k v h3 n):=by
 obtain ⟨_,h1⟩:=hr _ _ _ _ _ hF hH e
 have e0:ret t h n l=gN (.bad [90]) (res t h l) (.ok (.tup .nil) h n) fun a r=>gN (.bad [89]) r (okV a h n 88) fun b q=>.ok (.tup (.cons a (.cons b q))) h n:=rfl
 rcases Zeb h1 with ⟨e1,h2⟩ | ⟨a,q,e1,h2⟩
 ·exact ⟨_,by rw [e0,e1]; rfl,h2⟩
 ·rcases Zeb h2 with ⟨e2,h4⟩ | ⟨b,q2,e2,h4⟩
  ·obtain ⟨h5,h6⟩:=Zfd h4
   refine ⟨_,?_,h6⟩
   rw [e0,e1,e2]
   exact Zck h5
  ·refine ⟨_,?_,h4⟩
   rw [e0,e1,e2]
   rfl
def Ypx (w:Bw) (p:(Cl3->RV->H3->Nat->KV->A)->Prop):Prop:=match w with | .mk f=>p f | .no=>True
def Yhq (ys:Ys) (fl:Nat) (b:Cl3->RV->H3->Nat->KV->A) (r:RF):Prop:=∀ cl3 cl a h3 h n k f,Zjn fl cl3 cl->Zbw h3 h->Good (b cl3 a h3 n k)->∃ v h' n' h3',Ziw ys cl f r a fl h n=.ok v h' n'/\Zbw h3' h'/\Good (k v h3' n')
/-! a round -/
def Yyl (z:RV->F3->(F3->A)->A) (l:List Pa):Prop:=∀ a t3 t k,FR t3 t->Good (z a t3 k)->∃ t',Zjk l a t=some t'/\∃ t3',FR t3' t'/\Good (k t3')
theorem Zwn:∀ l,∃ z,slZ l=.mk z/\Yyl z l
 | []=>⟨Yxn,rfl,fun a t3 t k hF e=>by
   rcases Zeb e with ⟨rfl,h1⟩ | ⟨_,_,_,h1⟩
   ·exact ⟨t,rfl,t3,hF,h1⟩
   ·exact Good.no h1⟩
 | p::l=>by
  obtain ⟨z,e1,hz⟩:=Zwn l
  obtain ⟨s,e2,hs⟩:=Zxv p
  refine ⟨Ypv s z,?_,fun a t3 t k hF e=>?_⟩
  ·show @Sw.rec (fun _=>Zw) (fun s=>@Zw'.rec F3 (fun _=>Zw) (fun z=>.mk (Ypv s z)) (slZ l)) (Ztm (Nat.sub (Pa.val p) 1))=_
   rw [e1,e2]
  ·obtain ⟨x,r,rfl,h1⟩:=Zf7 e
   obtain ⟨t3',hF',h2⟩:=hs _ _ _ _ hF h1
   obtain ⟨t',e3,h4⟩:=hz _ _ _ _ hF' h2
   exact ⟨t',e3,h4⟩
theorem Zmi {key b:Nat} {is:Bool} {st:RV} {h3:H3} {h:HT} {k:H3->A} (hH:Zbw h3 h) (e:Good (Yxw key b is st h3 k)):∃ c h3',hg h b=.bk c Zas/\cg c 0=.fn key (.b is)/\Zbw h3' (hst h (.bk (cst c (.fn key st) 0) Zas) b)/\Good (k h3'):=by
 obtain ⟨_,b3,w,rb,h4,h5⟩:=Zeh hH e
 obtain ⟨c,c3,e2,rc,h6⟩:=Yqx rb h4
 obtain ⟨q,s,e3,h7⟩:=Zt0 (Ze0 rc h6)
 obtain ⟨e4,h8⟩:=Za2 h7
 obtain ⟨x,rfl,h9⟩:=Zmd h8
 obtain ⟨e5,h10⟩:=Za2 h9
 obtain ⟨_,g1,k1,k2⟩:=Zei rc h10
 obtain ⟨c4,rc4,k3⟩:=k2 _ k1
 obtain ⟨h3',r',k10⟩:=h5 (mpB c4) (.bk _ Zas) (.inr ⟨rfl,c4,rfl,rc4⟩) k3
 have hq:q=key:=Nat.eq_of_beq_eq_true e4
 subst hq
 have hx:x=is:=by revert e5; cases x <;> cases is <;> decide
 subst hx
 exact ⟨c,h3',e2,e3,r',k10⟩
theorem Zke {key b:Nat} {st:RV} {ans:Bool} {h:HT} {n:Nat} {c:CT} (e1:hg h b=.bk c Zas) (e2:cg c 0=.fn key (.b true)):Zjq key b st ans h n=.ok (.b ans) (hst h (.bk (cst c (.fn key st) 0) Zas) b) n:=by
 show gMK (SR.bad [190]) (hg h b) (fun cs=>gF (.bad [191]) (cg cs 0) fun k s=>bf (Nat.beq k key) (gB (.bad [192]) s fun busy=>bf busy (fT (cst cs (.fn key st) 0) fun cs=>fT (hst h (.bk cs Zas) b) fun h=>.ok (.b ans) h n) (.bad [193])) (.bad [194]))=_
 rw [e1,Zlj,e2]
 show bf (Nat.beq key key) (fT (cst c (.fn key st) 0) fun cs=>fT (hst h (.bk cs Zas) b) fun h=>SR.ok (.b ans) h n) _=_
 rw [Nat.beq_refl,Zky,Zc9,Zc9]
theorem Ykw {key nv:Nat} {sv ps:List Pa} {a b0:RC} {zs zp:RV->F3->(F3->A)->A} {A0 B0:Kt->(Nat->Kt)->Kt->Kt} (hzs:Yyl zs sv) (hzp:Yyl zp ps) (hA:Yq1 ys fl A0 a) (hB:Yq1 ys fl B0 b0):Yhq ys fl (Yp2 fl key nv zs zp A0 B0) (.r key nv sv ps a b0):=fun cl3 cl ar h3 h n k f hc hH e=>by
 obtain ⟨y,xs,rfl,h1⟩:=Zf7 e
 obtain ⟨b,rfl,h2⟩:=Zxb h1
 obtain ⟨e2,h4⟩:=Za2 h2
 obtain ⟨b3,rb,_,h5⟩:=Zj9 hH h4
 obtain ⟨c,c3,e3,rc,h6⟩:=Yqx rb h5
 obtain ⟨q,s,e4,h7⟩:=Zt0 (Ze0 rc h6)
 obtain ⟨e5,h8⟩:=Za2 h7
 obtain ⟨hu,h9⟩:=Zot rc h8
 obtain ⟨t0,e6,t30,hF0,h10⟩:=hzs _ _ _ _ Ysg h9
 obtain ⟨t1,e7,t31,hF1,h11⟩:=hzp _ _ _ _ hF0 h10
 have st:Ziw ys cl f (.r key nv sv ps a b0) (.cons (.mp b) xs) fl h n=Yaw key b (code ys cl fl b0) (code ys cl fl a t1 h n):=by
  show bf (Nat.ble fl b) (gMK (SR.bad [205]) (hg h b) fun cs=>gF (.bad [206]) (cg cs 0) fun k _=>bf (Nat.beq k key) (nU (.bad [207]) (rd cs nv 1) fun vs=>gO (.bad [208]) (Zjk sv vs te) fun t0=>gO (.bad [209]) (Zjk ps xs t0) fun t1=>Yaw key b (code ys cl fl b0) (code ys cl fl a t1 h n)) (.bad [210])) (.bad [211])=_
  rw [e2,e3,Zky,Zlj,e4]
  show bf (Nat.beq q key) _ _=_
  rw [show Nat.beq q key=true from e5,Zky,Zb0 hu,e6]
  show gO (SR.bad [209]) (Zjk ps xs t0) _=_
  rw [e7]
  rfl
 rw [st]
 rcases hA _ _ _ _ _ _ _ _ _ _ hc hF1 hH h11 with ⟨t2,h2',n2,t32,h32,e8,hF2,hH2,h12⟩ | ⟨_,_,_,_,_,_,_,_,_,h12⟩ | ⟨_,_,_,_,_,_,_,_,h12⟩
 ·obtain ⟨c2,h33,e9,e10,hH3,h13⟩:=Zmi hH2 h12
  have st2:Yaw key b (code ys cl fl b0) (code ys cl fl a t1 h n)=Zos key b (code ys cl fl b0 t2 (hst h2' (.bk (cst c2 (.fn key (.b true)) 0) Zas) b) n2):=by
   rw [e8]
   show gMK (SR.bad [195]) (hg h2' b) (fun cs=>gF (.bad [196]) (cg cs 0) fun k s=>bf (Nat.beq k key) (gB (.bad [197]) s fun busy=>bf busy (.bad [198]) (fT (cst cs (.fn key (.b true)) 0) fun cs=>fT (hst h2' (.bk cs Zas) b) fun h=>Zos key b (code ys cl fl b0 t2 h n2))) (.bad [199]))=_
   rw [e9,Zlj,e10]
   show bf (Nat.beq key key) (fT (cst c2 (.fn key (.b true)) 0) fun cs=>fT (hst h2' (.bk cs Zas) b) fun h=>Zos key b (code ys cl fl b0 t2 h n2)) _=_
   rw [Nat.beq_refl,Zky,Zc9,Zc9]
  rw [st2]
  rcases hB _ _ _ _ _ _ _ _ _ _ hc hF2 hH3 h13 with ⟨t4,h4',n4,t34,h34,e11,hF4,hH4,h14⟩ | ⟨id,t4,h4',n4,t34,h34,e11,hF4,hH4,h14⟩ | ⟨t4,h4',n4,t34,h34,e11,hF4,hH4,h14⟩
  ·obtain ⟨c5,h35,e12,e13,hH5,h15⟩:=Zmi hH4 h14
   rw [e11]
   exact ⟨_,_,_,h35,Zke e12 e13,hH5,h15⟩
  ·obtain ⟨c5,h35,e12,e13,hH5,h15⟩:=Zmi hH4 h14
   rw [e11]
   exact ⟨_,_,_,h35,Zke e12 e13,hH5,h15⟩
  ·obtain ⟨c5,h35,e12,e13,hH5,h15⟩:=Zmi hH4 h14
   rw [e11]
   exact ⟨_,_,_,h35,Zke e12 e13,hH5,h15⟩
 ·exact Good.no h12
 ·exact Good.no h12
theorem Xa7 (r:RF):Ypx (bw ys fl r) fun b=>Yhq ys fl b r:=by
 cases r with
 | r key nv sv ps a b=>
  obtain ⟨zs,e1,hzs⟩:=Zwn sv
  obtain ⟨zp,e2,hzp⟩:=Zwn ps
  show Ypx (@Zw'.rec F3 (fun _=>Bw) (fun zs=>@Zw'.rec F3 (fun _=>Bw) (fun zp=>@Cw'.rec F3 H3 (fun _=>Bw) (fun A0=>@Cw'.rec F3 H3 (fun _=>Bw) (fun B0=>.mk (Yp2 fl key nv zs zp A0 B0)) .no (Zch ys fl b)) .no (Zch ys fl a)) (slZ ps)) (slZ sv)) _
  rw [e1,e2]
  have ha:=Zn0 (ys:=ys) (fl:=fl) a
  have hb:=Zn0 (ys:=ys) (fl:=fl) b
  show Ypx (@Cw'.rec F3 H3 (fun _=>Bw) (fun A0=>@Cw'.rec F3 H3 (fun _=>Bw) (fun B0=>.mk (Yp2 fl key nv zs zp A0 B0)) .no (Zch ys fl b)) .no (Zch ys fl a)) _
  revert ha
  cases Zch ys fl a with
  | no=>exact fun _=>trivial
  | mk A0=>
   intro ha
   show Ypx (@Cw'.rec F3 H3 (fun _=>Bw) (fun B0=>.mk (Yp2 fl key nv zs zp A0 B0)) .no (Zch ys fl b)) _
   revert hb
   cases Zch ys fl b with
   | no=>exact fun _=>trivial
   | mk B0=>exact fun hb=>Ykw hzs hzp ha hb
 | f np b rs=>
 obtain ⟨z,e1,hz⟩:=Zy2 np 0
 obtain ⟨r,e2,hr⟩:=Zqu rs
 show Ypx (@Zw'.rec F3 (fun _=>Bw) (fun z=>@Rw'.rec F3 H3 (fun _=>Bw) (fun r=>@Cw'.rec F3 H3 (fun _=>Bw) (fun c=>.mk (Yij z c r)) .no (Zch ys fl b)) (Yp3 rs)) (Yxm np 0)) _
 rw [e1,e2]
 have hco:=Zn0 (ys:=ys) (fl:=fl) b
 show Ypx (@Cw'.rec F3 H3 (fun _=>Bw) (fun c=>.mk (Yij z c r)) .no (Zch ys fl b)) _
 revert hco
 cases Zch ys fl b with
 | no=>exact fun _=>trivial
 | mk c=>
  intro hco cl3 cl a h3 h n k f hc hH e
  obtain ⟨e3,t3,hF,h1⟩:=hz _ _ _ _ Ysg e
  have e4:Ziw ys cl f (.f np b rs) a fl h n=Yw6 (code ys cl fl b (lay a te 0) h n) f rs:=by
   show gO (SR.bad [93]) (Zav a) (fun m=>bf (Nat.beq m np) (Yw6 (code ys cl fl b (lay a te 0) h n) f rs) (.bad [94,f]))=_
   rw [e3]
   show bf (Nat.beq np np) _ _=_
   rw [Nat.beq_refl]
   rfl
  rw [e4]
  rcases hco _ _ _ _ _ _ _ _ _ _ hc hF hH h1 with ⟨t',h',n',t3',h3',e5,hF',hH',h2⟩ | ⟨j,t',h',n',t3',h3',e5,hF',hH',h2⟩ | ⟨t',h',n',t3',h3',e5,hF',hH',h2⟩
  ·obtain ⟨v,e6,h4⟩:=Zxy hr hF' hH' h2
   rw [e5]
   exact ⟨v,h',n',h3',e6,hH',h4⟩
  ·exact Good.no h2
  ·obtain ⟨v,e6,h4⟩:=Zxy hr hF' hH' h2
   rw [e5]
   exact ⟨v,h',n',h3',e6,hH',h4⟩
noncomputable def kcY (h:HT) (n z:Nat) (ch:RV):SR:=gK (.bad [160]) (hg h 0) fun cs _=>nU (.bad [161]) (rd cs z 0) fun r=>bf (eqV r ch) (.ok (.b true) h n) (.bad [162])
noncomputable def Zqh (ys:Ys) (fs:Nat->Option RF) (orc:Nat->RV->Option RV) (kc:Nat->RV->Option (Nat × RV)) (deep:Nat):Cl':=
 @Nat.rec (fun _=>Cl') (fun _ _ _ _ _=>.bad [91]) (fun _ ih f a fl h n=>gO (gO (gO (.bad [92,f]) (fs f) fun r=>Ziw ys ih f r a fl h n) (orc f a) fun v=>.ok v h n) (kc f a) fun q=>bf (Nat.ble 16777216 q.1) (Zok (Nat.sub q.1 16777216) q.2 a fl h n) (kcY h n q.1 q.2)) deep
theorem Yvo {q:Option (Nat × RV)} {n:A} {k:Nat->RV->A} (e:Good (cOQ q n k)):(q=none/\Good n) ∨ ∃ z c,q=some (z,c)/\Good (k z c):=by
 cases q with
 | none=>exact .inl ⟨rfl,e⟩
 | some x=>exact .inr ⟨x.1,x.2,rfl,e⟩
theorem Ztf (fs:Nat->Option RF) (orc:Nat->RV->Option RV) (kc:Nat->RV->Option (Nat × RV)):∀ deep,Zjn fl (Ztz ys fl fs orc kc deep) (Zqh ys fs orc kc deep)
 | 0=>fun _ _ _ _ _ _ _ e=>Good.no e
 | deep + 1=>fun f a h3 h n k hH e=>by
  have ih:=Ztf fs orc kc deep
  have ek:Zqh ys fs orc kc (deep + 1) f a fl h n=gO (gO (gO (.bad [92,f]) (fs f) fun r=>Ziw ys (Zqh ys fs orc kc deep) f r a fl h n) (orc f a) fun v=>.ok v h n) (kc f a) fun q=>bf (Nat.ble 16777216 q.1) (Zok (Nat.sub q.1 16777216) q.2 a fl h n) (kcY h n q.1 q.2):=rfl
  rcases Yvo (show Good (cOQ (kc f a) (cOV (orc f a) (@Bw'.rec H3 (fun _=>Cl3->RV->H3->Nat->KV->A) (fun b=>b) (fun _ _ _ _ _=>.no) (bwO ys fl (fs f)) (Ztz ys fl fs orc kc deep) a h3 n k) (fun v=>k v h3 n)) fun z ch=>ifA (Nat.ble 16777216 z) (Yh1 (Nat.sub z 16777216) a fl h3 n k) (kc3 h3 n z ch k)) from e) with ⟨e0,h0⟩ | ⟨z,ch,e0,h0⟩
  case inr=>
   rcases Zaw h0 with ⟨hz0,h0⟩ | ⟨hz0,h0⟩
   ·obtain ⟨v,h',n',e2,h3',r',h4⟩:=Yco hH h0
    refine ⟨v,h',n',h3',?_,r',h4⟩
    rw [ek,e0]
    show bf (Nat.ble 16777216 z) (Zok (Nat.sub z 16777216) ch a fl h n) (kcY h n z ch)=_
    rw [hz0,Zky]
    exact e2
   obtain ⟨c,z1,c3,hb,rc,_,h1,hmz⟩:=Zqe hH (show Good (Zjh h3 0 fun bk=>bk .no noM fun c _=>rd3 z c 0 fun r=>ifA (eqV r ch) (k (.b true) h3 n) .no) from h0)
   obtain ⟨hu,h2⟩:=Zot rc h1
   rcases Zaw h2 with ⟨h3e,h4⟩ | ⟨_,h4⟩
   case inr=>exact Good.no h4
   refine ⟨.b true,h,n,h3,?_,hH,h4⟩
   rw [ek,e0]
   show bf (Nat.ble 16777216 z) (Zok (Nat.sub z 16777216) ch a fl h n) (kcY h n z ch)=_
   rw [hz0]
   show gK (SR.bad [160]) (hg h 0) (fun cs _=>nU (.bad [161]) (rd cs z 0) fun r=>bf (eqV r ch) (.ok (.b true) h n) (.bad [162]))=_
   rw [hb]
   have hz:Nat.beq z1 Zas=false:=by
    cases hq:Nat.beq z1 Zas with
    | false=>rfl
    | true=>exact absurd (Nat.eq_of_beq_eq_true hq) hmz
   show bf (Nat.beq z1 Zas) (SR.bad [160]) (nU (.bad [161]) (rd c z 0) fun r=>bf (eqV r ch) (.ok (.b true) h n) (.bad [162]))=_
   rw [hz]
   show nU (SR.bad [161]) (rd c z 0) (fun r=>bf (eqV r ch) (.ok (.b true) h n) (.bad [162]))=_
   rw [Zb0 hu,h3e]
   rfl
  have e0:Zqh ys fs orc kc (deep + 1) f a fl h n=gO (gO (.bad [92,f]) (fs f) fun r=>Ziw ys (Zqh ys fs orc kc deep) f r a fl h n) (orc f a) fun v=>.ok v h n:=by rw [ek,e0]; rfl
  rcases Yvn h0 with ⟨e1,h1⟩ | ⟨v,e1,h1⟩
  ·rw [e0,e1]
   show ∃ v h' n' h3',gO (SR.bad [92,f]) (fs f) (fun r=>Ziw ys (Zqh ys fs orc kc deep) f r a fl h n)=.ok v h' n'/\Zbw h3' h'/\Good (k v h3' n')
   revert h1
   cases fs f with
   | none=>exact fun h1=>Good.no h1
   | some r=>
    intro h1
    have hb:=Xa7 (ys:=ys) (fl:=fl) r
    have h1:Good (@Bw'.rec H3 (fun _=>Cl3->RV->H3->Nat->KV->A) (fun b=>b) (fun _ _ _ _ _=>.no) (bw ys fl r) (Ztz ys fl fs orc kc deep) a h3 n k):=h1
    revert h1 hb
    cases bw ys fl r with
    | no=>exact fun _ h1=>Good.no h1
    | mk b=>exact fun hb h1=>hb _ _ _ _ _ _ _ f ih hH h1
  ·rw [e0,e1]
   exact ⟨v,h,n,h3,rfl,hH,h1⟩
theorem Yt8 {v:RV} {h3:H3} {n:Nat} (e:Good (isT v h3 n)):v=.b true:=by
 obtain ⟨x,rfl,h1⟩:=Zmd e
 rcases Zaw h1 with ⟨rfl,_⟩ | ⟨_,h2⟩
 ·rfl
 ·exact Good.no h2
theorem Yy7 {fs:Nat->Option RF} {orc:Nat->RV->Option RV} {kc:Nat->RV->Option (Nat × RV)} {deep f n:Nat} {a:RV} {h3:H3} {h:HT} (hH:Zbw h3 h) (e:Ztz ys fl fs orc kc deep f a h3 n isT=.yes):∃ h' n',Zqh ys fs orc kc deep f a fl h n=.ok (.b true) h' n':=by
 obtain ⟨v,h',n',h3',e1,_,h1⟩:=Ztf fs orc kc deep f a h3 h n isT hH e
 rw [Yt8 h1] at e1
 exact ⟨h',n',e1⟩
end
end Go.Rn
namespace Go.Rn
noncomputable def Zwm (ch:RV) (b z:Nat) (k:H3->A):A:=ifA (Nat.beq z Zas) .no (Yfn ch ce3 0 fun cs _=>Zuy he3 b (fun _ f=>f (bkB cs z)) k)
theorem Zy7 {ch:RV} {b z:Nat} {k:H3->A} (e:Good (Zwm ch b z k)):∃ h3,Zbw h3 (hst he (.bk (lay ch ce 0) z) b)/\Good (k h3):=by
 rcases Zaw e with ⟨_,e⟩ | ⟨hz,e⟩
 ·exact Good.no e
 have hmz:z ≠ Zas:=fun q=>by rw [q] at hz; exact absurd hz (by decide)
 obtain ⟨_,_,c3,rc,h1⟩:=Zh7 Zll e
 obtain ⟨_,b3,g,_,h2,h4⟩:=Zeh Yue h1
 exact h4 (bkB c3 z) (.bk (lay ch ce 0) z) (.inl ⟨hmz,c3,rfl,rc⟩) h2
theorem Zt8 {ys:Ys} {fl:Nat} {fs:Nat->Option RF} {orc:Nat->RV->Option RV} {kc:Kc} {deep f n b z:Nat} {a ch:RV} (e:Zwm ch b z (fun h=>Ztz ys fl fs orc kc deep f a h n isT)=.yes):∃ h' n',Zh4 ys fs orc kc deep f a fl (hst he (.bk (lay ch ce 0) z) b) n=.ok (.b true) h' n':=by
 obtain ⟨h3,hH,h1⟩:=Zy7 e
 exact Yy7 hH h1
theorem Yd3 {ρ:Rho} {P:Program} {ys:Ys} {fs:Nat->Option RF} {orc:Nat->RV->Option RV} (hy:YsOk ρ ys) (hfs:∀ f r,fs f=some r->Zak P f=some r) (ho:Zwk P ρ orc) {kc:Kc} (hk:Yqy P ρ kc) {deep f g n:Nat} {c:RV} {h0:HT} {m0:Mp} {w:World} (hgn:g<=n) (hd0:∀ b c z,hg h0 b=.bk c z->b < n) (s:Sim P ρ m0 g h0 w) (gl:Yat P m0) (hfree:∀ b,n<=b->m0 b=none)
  (e:∃ h' n',Zh4 ys fs orc kc deep f c n h0 n=.ok (.b true) h' n') {vs:List Value} (hd:Zbg ρ m0 c vs) (hf:f < 16777216:=by decide) :
  Calls P f vs.toArray w fun e w'=>e=.returned (.bool true)/\Old w w':=by
 obtain ⟨h',n',hx⟩:=e
 obtain ⟨_,hc1,_⟩:=Zjc (g:=g) hy fs hfs ho hk deep f c n h0 n _ _ _ hx hgn (Nat.le_refl _)
 obtain ⟨_,hc⟩:=hc1 hf
 refine (hc m0 w vs s gl hd (fun b h1 _=>hfree b h1)).mono ?_
 rintro e w' ⟨u,m',rfl,T,hu⟩
 have:u=.bool true:=hu
 subst this
 exact ⟨rfl,T.keep.os,T.keep.tape,T.keep.output,T.keep.size,fun k hk=>T.keep.block k hk (fun b c z O Z hb1 hb=>by have:=hd0 b c z hb; omega)⟩
end Go.Rn
namespace Go.Rn
/-! what is known of letters: between which numbers they lie -/
end Go.Rn
