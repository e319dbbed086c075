/-
  One text of a symbolic evaluator over the model, shown sound once for every program: no statement is claimed here.
-/
import Derived.Test.YthfaoceleaaepaaGreatDoorRqJ
import Derived.Test.YthfaoceleaaepaaGreatDoorRnZd
import Derived.IntWalk
import Derived.Test.YthfaoceleaaepaaGreatDoorRnZf
namespace Go.Rn
attribute [local irreducible] HT10 CT9 RelC9 RelH10
section
variable {ys:Ys} {fl:Nat}
def CRes (r:BR) (nx:Kt) (ex:Nat→Kt) (rt:Kt) (cl3:Cl3):Prop:=
 (∃ t' h' n' t3' h3',r=.nx t' h' n'∧FR t3' t'∧HRel h3' h'∧Good (nx cl3 t3' h3' n')) ∨
 (∃ id t' h' n' t3' h3',r=.ex id t' h' n'∧FR t3' t'∧HRel h3' h'∧Good (ex id cl3 t3' h3' n')) ∨
 (∃ t' h' n' t3' h3',r=.rt t' h' n'∧FR t3' t'∧HRel h3' h'∧Good (rt cl3 t3' h3' n'))
def COkc (ys:Ys) (fl:Nat) (f:Kt→(Nat→Kt)→Kt→Kt) (c:RC):Prop:=∀ nx ex rt cl3 cl t3 t h3 h n,ClSim fl cl3 cl→FR t3 t→HRel h3 h→Good (f nx ex rt cl3 t3 h3 n)→CRes (code ys cl fl c t h n) nx ex rt cl3
def CwOk (w:Cw) (p:(Kt→(Nat→Kt)→Kt→Kt)→Prop):Prop:=match w with | .mk f=>p f | .no=>True
/-! rounds,one after the other -/
noncomputable def iter (body:Bd):Nat→Bd
 | 0=>.nx
 | m + 1=>fun t h n=>andThen (body t h n) (iter body m)
theorem andThen_assoc (r:BR) (a b:Bd):andThen (andThen r a) b=andThen r (fun t h n=>andThen (a t h n) b):=by cases r <;> rfl
theorem iter_add (body:Bd):∀ a b t h n,iter body (a + b) t h n=andThen (iter body a t h n) (iter body b)
 | 0,b,t,h,n=>by rw [Nat.zero_add]; rfl
 | a + 1,b,t,h,n=>by
  rw [show a + 1 + b=(a + b) + 1 by omega]
  show andThen (body t h n) (iter body (a + b))=andThen (andThen (body t h n) (iter body a)) (iter body b)
  rw [andThen_assoc]
  congr 1
  funext t h n
  exact iter_add body a b t h n
theorem andThen_nx (r:BR):andThen r .nx=r:=by cases r <;> rfl
theorem rounds_iter (body:Bd):∀ k t h n,rounds body k t h n=iter body (2 ^ k) t h n
 | 0,t,h,n=>(andThen_nx _).symm
 | k + 1,t,h,n=>by
  show andThen (rounds body k t h n) (rounds body k)=_
  rw [show 2 ^ (k + 1)=2 ^ k + 2 ^ k by rw [Nat.pow_succ]; omega,iter_add,rounds_iter body k t h n]
  congr 1
  funext t h n
  exact rounds_iter body k t h n
theorem loop_ok {a:Kt→(Nat→Kt)→Kt→Kt} {c:RC} (ha:COkc ys fl a c) {ex:Nat→Kt} {rt:Kt} {cl3:Cl3} {cl:Cl'} (hc:ClSim fl cl3 cl):∀ m t3 t h3 h n,FR t3 t→HRel h3 h→Good (loopK a ex rt m cl3 t3 h3 n)→CRes (iter (code ys cl fl c) m t h n) noK ex rt cl3
 | 0,_,_,_,_,_,_,_,e=>Good.no e
 | m + 1,t3,t,h3,h,n,hF,hH,e=>by
  show CRes (andThen (code ys cl fl c t h n) (iter (code ys cl fl c) m)) noK ex rt cl3
  rcases ha (loopK a ex rt m) ex rt _ _ _ _ _ _ _ hc hF hH e with ⟨t',h',n',t3',h3',e1,hF',hH',h1⟩ | ⟨id,t',h',n',t3',h3',e1,hF',hH',h1⟩ | ⟨t',h',n',t3',h3',e1,hF',hH',h1⟩
  ·rw [e1]; exact loop_ok ha hc m _ _ _ _ _ hF' hH' h1
  ·rw [e1]; exact .inr (.inl ⟨id,t',h',n',t3',h3',rfl,hF',hH',h1⟩)
  ·rw [e1]; exact .inr (.inr ⟨t',h',n',t3',h3',rfl,hF',hH',h1⟩)
theorem cSt_ok {v:RV} {nx:A} {ex:Nat→A} {rt:A} (e:Good (cSt v nx ex rt)):(v=.b false∧Good nx) ∨ (∃ id o,v=.p id o∧Good (ex id)) ∨ (v=.nil∧Good rt):=by
 cases v <;> first | exact Good.no e | exact .inr (.inl ⟨_,_,rfl,e⟩) | exact .inr (.inr ⟨rfl,e⟩) | skip
 rename_i x
 rcases ifA_ok (show Good (ifA x .no nx) from e) with ⟨_,h1⟩ | ⟨rfl,h1⟩
 ·exact Good.no h1
 ·exact .inl ⟨rfl,h1⟩
theorem rfK_ok {g:RO} {key:Nat} {sv:List Pa} {ga gc:G3} (hga:GOk ga fun t=>ev t g) (hgc:COk gc fun t=>evL t (sv.map RO.t)):COkc ys fl (rfK fl ga gc key) (.rf g key sv):=fun nx ex rt cl3 cl t3 t h3 h n hc hF hH e=>by
 obtain ⟨f,q,e1,h1⟩:=cF_ok (hga _ _ _ hF e)
 have e1:ev t g=.fn f q:=e1
 rcases ifA_ok h1 with ⟨_,h2⟩ | ⟨e2,h2⟩
 ·exact Good.no h2
 obtain ⟨hu,h4⟩:=hgc _ _ _ hF h2
 have hu:evL t (sv.map RO.t) ≠ .un:=hu
 obtain ⟨e3,h5⟩:=ifA_y h4
 obtain ⟨m,_,c3,rc,h6⟩:=lay3_ok ce3_ok h5
 obtain ⟨_,g1,k1,k2⟩:=cupd_ok rc h6
 obtain ⟨c4,rc4,k3⟩:=k2 _ k1
 obtain ⟨_,b3,g',_,k4,k5⟩:=hupd_ok hH k3
 obtain ⟨h3',r',k6⟩:=k5 (mpB c4) (.bk _ MAPZ) (.inr ⟨rfl,c4,rfl,rc4⟩) k4
 have k7:=frc_ok (k:=fun m=>frc (Nat.add 33554432 key) fun fk=>cl3 f (.cons (.fn fk (.cons (.mp n) .nil)) q) h3' m (rfEnd3 n t3 nx ex rt cl3)) k6
 have k8:=frc_ok (k:=fun fk=>cl3 f (.cons (.fn fk (.cons (.mp n) .nil)) q) h3' (Nat.succ n) (rfEnd3 n t3 nx ex rt cl3)) k7
 obtain ⟨v,h',n',h3'',e4,r'',h9⟩:=hc _ _ _ _ _ _ r' k8
 obtain ⟨b5,rb,_,h10⟩:=hget_ok r'' h9
 obtain ⟨c5,c35,e5,rc5,h11⟩:=bkMp rb h10
 obtain ⟨_,b4,g4,_,h12,h13⟩:=hupd_ok r'' h11
 obtain ⟨h4',r4,h14⟩:=h13 noB .no rfl h12
 obtain ⟨k,s,e6,h15⟩:=cF_ok (cget_ok rc5 h14)
 have st:code ys cl fl (.rf g key sv) t h n=rfState (cg c5 0) t (hst h' .no n) n':=by
  show gF (BR.bad [180]) (ev t g) (fun f c=>bf (Nat.ble BND f) (BR.bad [181]) (nU (BR.bad [182]) (evL t (sv.map RO.t)) fun vs=>bf (Nat.ble fl n)
   (fT (lay (.cons .np vs) ce 0) fun cs=>fT (cst cs (.fn key (.b false)) 0) fun cs=>fT (hst h (.bk cs MAPZ) n) fun h=>rfEnd n t (cl f (.cons (.fn (Nat.add 33554432 key) (.cons (.mp n) .nil)) c) fl h (Nat.succ n))) (BR.bad [188])))=_
  rw [e1,gF_fn,e2]
  show nU (BR.bad [182]) (evL t (sv.map RO.t)) _=_
  rw [nU_of hu,e3,bf_t,fT_id,fT_id,fT_id]
  show rfEnd n t (cl f (.cons (.fn (Nat.add 33554432 key) (.cons (.mp n) .nil)) q) fl _ (Nat.succ n))=_
  rw [e4]
  show gMK (BR.bad [183]) (hg h' n) _=_
  rw [e5,gMK_bk,fT_id]
 rw [st,e6]
 rcases cSt_ok h15 with ⟨rfl,h16⟩ | ⟨id,o,rfl,h16⟩ | ⟨rfl,h16⟩
 ·exact .inl ⟨t,_,_,t3,h4',rfl,hF,r4,h16⟩
 ·exact .inr (.inl ⟨id,t,_,_,t3,h4',rfl,hF,r4,h16⟩)
 ·exact .inr (.inr ⟨t,_,_,t3,h4',rfl,hF,r4,h16⟩)
theorem codew_ok (c:RC):CwOk (codew ys fl c) fun f=>COkc ys fl f c:=by
 induction c with
 | sk=>exact fun nx ex rt cl3 cl t3 t h3 h n hc hF hH e=>.inl ⟨t,h,n,t3,h3,rfl,hF,hH,e⟩
 | rg l=>
  have h1:=lw_ok (ys:=ys) (fl:=fl) l
  show CwOk (@Lw'.rec F3 H3 (fun _=>Cw) (fun a=>.mk (fun nx _ _=>a nx)) .no (lw ys fl l)) _
  revert h1
  cases lw ys fl l with
  | no=>exact fun _=>trivial
  | mk a=>exact fun h1 nx ex rt cl3 cl t3 t h3 h n hc hF hH e=>.inl (h1 _ _ _ _ _ _ _ _ hc hF hH e)
 | dr l=>
  have h1:=dw_ok (ys:=ys) (fl:=fl) l
  show CwOk (@Dv'.rec F3 H3 (fun _=>Cw) (fun a=>.mk (fun nx _ _=>drK a nx)) .no (dw ys fl l)) _
  revert h1
  cases dw ys fl l with
  | no=>exact fun _=>trivial
  | mk a=>exact fun h1 nx ex rt cl3 cl t3 t h3 h n hc hF hH e=>.inl (h1 nx n [] [h3] [h] _ _ _ _ _ _ _ hc hF hH ⟨hH,trivial⟩ e)
 | sq a b iha ihb=>
  show CwOk (@Cw'.rec F3 H3 (fun _=>Cw) (fun a=>@Cw'.rec F3 H3 (fun _=>Cw) (fun b=>.mk (sqK a b)) .no (codew ys fl b)) .no (codew ys fl a)) _
  revert iha
  cases codew ys fl a with
  | no=>exact fun _=>trivial
  | mk fa=>
   intro ha
   show CwOk (@Cw'.rec F3 H3 (fun _=>Cw) (fun b=>.mk (sqK fa b)) .no (codew ys fl b)) _
   revert ihb
   cases codew ys fl b with
   | no=>exact fun _=>trivial
   | mk fb=>
    intro hb nx ex rt cl3 cl t3 t h3 h n hc hF hH e
    show CRes (andThen (code ys cl fl a t h n) (code ys cl fl b)) nx ex rt cl3
    rcases ha (fb nx ex rt) ex rt _ _ _ _ _ _ _ hc hF hH e with ⟨t',h',n',t3',h3',e1,hF',hH',h1⟩ | ⟨id,t',h',n',t3',h3',e1,hF',hH',h1⟩ | ⟨t',h',n',t3',h3',e1,hF',hH',h1⟩
    ·rw [e1]; exact hb nx ex rt _ _ _ _ _ _ _ hc hF' hH' h1
    ·rw [e1]; exact .inr (.inl ⟨id,t',h',n',t3',h3',rfl,hF',hH',h1⟩)
    ·rw [e1]; exact .inr (.inr ⟨t',h',n',t3',h3',rfl,hF',hH',h1⟩)
 | cd c a b iha ihb=>
  obtain ⟨g,e0,hg⟩:=ropW_ok c
  show CwOk (@Gw.rec (fun _=>Cw) (fun g=>@Cw'.rec F3 H3 (fun _=>Cw) (fun a=>@Cw'.rec F3 H3 (fun _=>Cw) (fun b=>.mk (fun nx ex rt=>cdK g (a nx ex rt) (b nx ex rt))) .no (codew ys fl b)) .no (codew ys fl a)) (ropW c)) _
  rw [e0]
  show CwOk (@Cw'.rec F3 H3 (fun _=>Cw) (fun a=>@Cw'.rec F3 H3 (fun _=>Cw) (fun b=>.mk (fun nx ex rt=>cdK g (a nx ex rt) (b nx ex rt))) .no (codew ys fl b)) .no (codew ys fl a)) _
  revert iha
  cases codew ys fl a with
  | no=>exact fun _=>trivial
  | mk fa=>
   intro ha
   show CwOk (@Cw'.rec F3 H3 (fun _=>Cw) (fun b=>.mk (fun nx ex rt=>cdK g (fa nx ex rt) (b nx ex rt))) .no (codew ys fl b)) _
   revert ihb
   cases codew ys fl b with
   | no=>exact fun _=>trivial
   | mk fb=>
    intro hb nx ex rt cl3 cl t3 t h3 h n hc hF hH e
    obtain ⟨x,e1,h1⟩:=cB_ok (hg _ _ _ hF e)
    have e1:ev t c=.b x:=e1
    show CRes (gB (fun _ _ _=>.bad [98]) (ev t c) (fun x=>bf x (code ys cl fl a) (code ys cl fl b)) t h n) nx ex rt cl3
    rw [e1]
    rcases ifA_ok h1 with ⟨rfl,h2⟩ | ⟨rfl,h2⟩
    ·exact ha nx ex rt _ _ _ _ _ _ _ hc hF hH h2
    ·exact hb nx ex rt _ _ _ _ _ _ _ hc hF hH h2
 | bl id a iha=>
  show CwOk (@Cw'.rec F3 H3 (fun _=>Cw) (fun a=>.mk (fun nx ex rt=>a nx (exU ex id nx) rt)) .no (codew ys fl a)) _
  revert iha
  cases codew ys fl a with
  | no=>exact fun _=>trivial
  | mk fa=>
   intro ha nx ex rt cl3 cl t3 t h3 h n hc hF hH e
   show CRes (blC (code ys cl fl a t h n) id) nx ex rt cl3
   rcases ha nx (exU ex id nx) rt _ _ _ _ _ _ _ hc hF hH e with ⟨t',h',n',t3',h3',e1,hF',hH',h1⟩ | ⟨j,t',h',n',t3',h3',e1,hF',hH',h1⟩ | ⟨t',h',n',t3',h3',e1,hF',hH',h1⟩
   ·rw [e1]; exact .inl ⟨t',h',n',t3',h3',rfl,hF',hH',h1⟩
   ·rw [e1]
    have h1:Good (ifK (Nat.beq j id) nx (ex j) cl3 t3' h3' n'):=h1
    show CRes (bf (Nat.beq j id) (.nx t' h' n') (.ex j t' h' n')) nx ex rt cl3
    cases hj:Nat.beq j id with
    | true=>rw [hj] at h1; exact .inl ⟨t',h',n',t3',h3',rfl,hF',hH',h1⟩
    | false=>rw [hj] at h1; exact .inr (.inl ⟨j,t',h',n',t3',h3',rfl,hF',hH',h1⟩)
   ·rw [e1]; exact .inr (.inr ⟨t',h',n',t3',h3',rfl,hF',hH',h1⟩)
 | lp a iha=>
  show CwOk (@Cw'.rec F3 H3 (fun _=>Cw) (fun a=>.mk (fun _ ex rt=>loopK a ex rt 1048576)) .no (codew ys fl a)) _
  revert iha
  cases codew ys fl a with
  | no=>exact fun _=>trivial
  | mk fa=>
   intro ha nx ex rt cl3 cl t3 t h3 h n hc hF hH e
   show CRes (lpC (rounds (code ys cl fl a) 20 t h n)) nx ex rt cl3
   have h0:=loop_ok ha hc 1048576 _ _ _ _ _ hF hH e
   rw [rounds_iter,show (2:Nat) ^ 20=1048576 by decide]
   rcases h0 with ⟨t',h',n',t3',h3',e1,hF',hH',h1⟩ | ⟨j,t',h',n',t3',h3',e1,hF',hH',h1⟩ | ⟨t',h',n',t3',h3',e1,hF',hH',h1⟩
   ·exact Good.no h1
   ·rw [e1]; exact .inr (.inl ⟨j,t',h',n',t3',h3',rfl,hF',hH',h1⟩)
   ·rw [e1]; exact .inr (.inr ⟨t',h',n',t3',h3',rfl,hF',hH',h1⟩)
 | ex id=>exact fun nx ex rt cl3 cl t3 t h3 h n hc hF hH e=>.inr (.inl ⟨id,t,h,n,t3,h3,rfl,hF,hH,e⟩)
 | rt=>exact fun nx ex rt cl3 cl t3 t h3 h n hc hF hH e=>.inr (.inr ⟨t,h,n,t3,h3,rfl,hF,hH,e⟩)
 | rf g key sv=>
  obtain ⟨ga,e0,hga⟩:=ropW_ok g
  obtain ⟨gc,e1,hgc⟩:=evw_ok (sv.map RO.t)
  show CwOk (@Gw.rec (fun _=>Cw) (fun g=>@Gw.rec (fun _=>Cw) (fun c=>.mk (rfK fl g c key)) (evw (sv.map RO.t))) (ropW g)) _
  rw [e0,e1]
  exact rfK_ok hga hgc
/-! calls -/
def ZOk (z:RV→F3→(F3→A)→A) (np i:Nat):Prop:=∀ a t3 t k,FR t3 t→Good (z a t3 k)→chLen a=some np∧∃ t3',FR t3' (lay a t i)∧Good (k t3')
theorem argW_ok:∀ np i,∃ z,argW np i=.mk z∧ZOk z np i
 | 0,i=>⟨argE,rfl,fun a t3 t k hF e=>by
   rcases cNn_ok e with ⟨rfl,h1⟩ | ⟨_,_,_,h1⟩
   ·exact ⟨rfl,t3,hF,h1⟩
   ·exact Good.no h1⟩
 | np + 1,i=>by
  obtain ⟨z,e1,hz⟩:=argW_ok np (i + 1)
  obtain ⟨s,e2,hs⟩:=setC_ok i
  refine ⟨argZ s z,?_,fun a t3 t k hF e=>?_⟩
  ·show @Sw.rec (fun _=>Zw) (fun s=>@Zw'.rec F3 (fun _=>Zw) (fun z=>.mk (argZ s z)) (argW np (i + 1))) (setK i)=_
   rw [e1,e2]
  ·obtain ⟨x,r,rfl,h1⟩:=cN_ok e
   obtain ⟨t3',hF',h2⟩:=hs _ _ _ _ hF h1
   obtain ⟨e3,t3'',hF'',h4⟩:=hz _ _ _ _ hF' h2
   refine ⟨?_,t3'',?_,h4⟩
   ·show gO none (chLen r) (fun n=>some (Nat.succ n))=_
    rw [e3]; rfl
   ·show FR t3'' (fT (cst t x i) fun t=>lay r t (i + 1))
    rw [fT_id]; exact hF''
def ROk (r:F3→H3→(RV→A)→A) (l:List RS):Prop:=∀ t3 t h3 h k,FR t3 t→HRel h3 h→Good (r t3 h3 k)→res t h l ≠ .un∧Good (k (res t h l))
theorem resW_ok:∀ l,∃ r,resW l=.mk r∧ROk r l
 | []=>⟨_,rfl,fun _ _ _ _ _ _ _ e=>⟨by show RV.nil ≠ .un; simp,e⟩⟩
 | .t p::l=>by
  obtain ⟨r,e1,hr⟩:=resW_ok l
  obtain ⟨g,e2,hg⟩:=getP_ok p
  refine ⟨rsT g r,?_,fun t3 t h3 h k hF hH e=>?_⟩
  ·show @Rw'.rec F3 H3 (fun _=>Rw) (fun r=>@Gw.rec (fun _=>Rw) (fun g=>.mk (rsT g r)) (getK (Nat.sub (Pa.val p) 1))) (resW l)=_
   rw [e1,e2]
  ·obtain ⟨h1,h2⟩:=cU_ok (hg _ _ _ hF e)
   obtain ⟨h4,h5⟩:=hr _ _ _ _ _ hF hH h2
   show kons (tg t p) (res t h l) ≠ .un∧Good (k (kons (tg t p) (res t h l)))
   rw [kons_of h1 h4]
   exact ⟨un_c,h5⟩
 | .c p ag m::l=>by
  obtain ⟨r,e1,hr⟩:=resW_ok l
  obtain ⟨g,e2,hga⟩:=getP_ok p
  refine ⟨rsC g ag m r,?_,fun t3 t h3 h k hF hH e=>?_⟩
  ·show @Rw'.rec F3 H3 (fun _=>Rw) (fun r=>@Gw.rec (fun _=>Rw) (fun g=>.mk (rsC g ag m r)) (getK (Nat.sub (Pa.val p) 1))) (resW l)=_
   rw [e1,e2]
  ·obtain ⟨b,o,e3,h1⟩:=cP_ok (hga _ _ _ hF e)
   obtain ⟨cs,z,c3,e4,rc,_,h2,hmz⟩:=hgetB hH h1
   obtain ⟨_,hu,h4⟩:=rdA_ok rc h2
   obtain ⟨h5,h6⟩:=hr _ _ _ _ _ hF hH h4
   have e3:tg t p=.p b o:=e3
   have e5:resC h (tg t p) ag m=rdV ag m cs o:=by
    show gP .un (tg t p) (fun b o=>gK .un (hg h b) fun cs _=>bf ag (nU .un (rd cs m o) fun c=>.agg c) (cg cs o))=_
    rw [e3]
    show gK .un (hg h b) (fun cs _=>bf ag (nU .un (rd cs m o) fun c=>.agg c) (cg cs o))=_
    rw [e4,gK_bk hmz]
    rfl
   show kons (resC h (tg t p) ag m) (res t h l) ≠ .un∧Good (k (kons (resC h (tg t p) ag m) (res t h l)))
   rw [e5,kons_of hu h5]
   exact ⟨un_c,h6⟩
theorem retK_ok {r:F3→H3→(RV→A)→A} {l:List RS} (hr:ROk r l) {k:KV} {cl3:Cl3} {t3:F3} {t:FT} {h3:H3} {h:HT} {n:Nat} (hF:FR t3 t) (hH:HRel h3 h) (e:Good (retK r k cl3 t3 h3 n)):∃ v,ret t h n l=.ok v h n∧Good (k v h3 n):=by
 obtain ⟨_,h1⟩:=hr _ _ _ _ _ hF hH e
 have e0:ret t h n l=gN (.bad [90]) (res t h l) (.ok (.tup .nil) h n) fun a r=>gN (.bad [89]) r (okV a h n 88) fun b q=>.ok (.tup (.cons a (.cons b q))) h n:=rfl
 rcases cNn_ok h1 with ⟨e1,h2⟩ | ⟨a,q,e1,h2⟩
 ·exact ⟨_,by rw [e0,e1]; rfl,h2⟩
 ·rcases cNn_ok h2 with ⟨e2,h4⟩ | ⟨b,q2,e2,h4⟩
  ·obtain ⟨h5,h6⟩:=cU_ok h4
   refine ⟨_,?_,h6⟩
   rw [e0,e1,e2]
   exact okV_of h5
  ·refine ⟨_,?_,h4⟩
   rw [e0,e1,e2]
   rfl
def BwOk (w:Bw) (p:(Cl3→RV→H3→Nat→KV→A)→Prop):Prop:=match w with | .mk f=>p f | .no=>True
def BodyOk (ys:Ys) (fl:Nat) (b:Cl3→RV→H3→Nat→KV→A) (r:RF):Prop:=∀ cl3 cl a h3 h n k f,ClSim fl cl3 cl→HRel h3 h→Good (b cl3 a h3 n k)→∃ v h' n' h3',callF ys cl f r a fl h n=.ok v h' n'∧HRel h3' h'∧Good (k v h3' n')
/-! a round -/
def ZsOk (z:RV→F3→(F3→A)→A) (l:List Pa):Prop:=∀ a t3 t k,FR t3 t→Good (z a t3 k)→∃ t',laySl l a t=some t'∧∃ t3',FR t3' t'∧Good (k t3')
theorem slZ_ok:∀ l,∃ z,slZ l=.mk z∧ZsOk z l
 | []=>⟨argE,rfl,fun a t3 t k hF e=>by
   rcases cNn_ok e with ⟨rfl,h1⟩ | ⟨_,_,_,h1⟩
   ·exact ⟨t,rfl,t3,hF,h1⟩
   ·exact Good.no h1⟩
 | p::l=>by
  obtain ⟨z,e1,hz⟩:=slZ_ok l
  obtain ⟨s,e2,hs⟩:=setP_ok p
  refine ⟨argZ s z,?_,fun a t3 t k hF e=>?_⟩
  ·show @Sw.rec (fun _=>Zw) (fun s=>@Zw'.rec F3 (fun _=>Zw) (fun z=>.mk (argZ s z)) (slZ l)) (setK (Nat.sub (Pa.val p) 1))=_
   rw [e1,e2]
  ·obtain ⟨x,r,rfl,h1⟩:=cN_ok e
   obtain ⟨t3',hF',h2⟩:=hs _ _ _ _ hF h1
   obtain ⟨t',e3,h4⟩:=hz _ _ _ _ hF' h2
   exact ⟨t',e3,h4⟩
theorem recS_ok {key b:Nat} {is:Bool} {st:RV} {h3:H3} {h:HT} {k:H3→A} (hH:HRel h3 h) (e:Good (recS key b is st h3 k)):∃ c h3',hg h b=.bk c MAPZ∧cg c 0=.fn key (.b is)∧HRel h3' (hst h (.bk (cst c (.fn key st) 0) MAPZ) b)∧Good (k h3'):=by
 obtain ⟨_,b3,w,rb,h4,h5⟩:=hupd_ok hH e
 obtain ⟨c,c3,e2,rc,h6⟩:=bkMp rb h4
 obtain ⟨q,s,e3,h7⟩:=cF_ok (cget_ok rc h6)
 obtain ⟨e4,h8⟩:=ifA_y h7
 obtain ⟨x,rfl,h9⟩:=cB_ok h8
 obtain ⟨e5,h10⟩:=ifA_y h9
 obtain ⟨_,g1,k1,k2⟩:=cupd_ok rc h10
 obtain ⟨c4,rc4,k3⟩:=k2 _ k1
 obtain ⟨h3',r',k10⟩:=h5 (mpB c4) (.bk _ MAPZ) (.inr ⟨rfl,c4,rfl,rc4⟩) k3
 have hq:q=key:=Nat.eq_of_beq_eq_true e4
 subst hq
 have hx:x=is:=by revert e5; cases x <;> cases is <;> decide
 subst hx
 exact ⟨c,h3',e2,e3,r',k10⟩
theorem rndSet_of {key b:Nat} {st:RV} {ans:Bool} {h:HT} {n:Nat} {c:CT} (e1:hg h b=.bk c MAPZ) (e2:cg c 0=.fn key (.b true)):rndSet key b st ans h n=.ok (.b ans) (hst h (.bk (cst c (.fn key st) 0) MAPZ) b) n:=by
 show gMK (SR.bad [190]) (hg h b) (fun cs=>gF (.bad [191]) (cg cs 0) fun k s=>bf (Nat.beq k key) (gB (.bad [192]) s fun busy=>bf busy (fT (cst cs (.fn key st) 0) fun cs=>fT (hst h (.bk cs MAPZ) b) fun h=>.ok (.b ans) h n) (.bad [193])) (.bad [194]))=_
 rw [e1,gMK_bk,e2]
 show bf (Nat.beq key key) (fT (cst c (.fn key st) 0) fun cs=>fT (hst h (.bk cs MAPZ) b) fun h=>SR.ok (.b ans) h n) _=_
 rw [Nat.beq_refl,bf_t,fT_id,fT_id]
theorem rndB_ok {key nv:Nat} {sv ps:List Pa} {a b0:RC} {zs zp:RV→F3→(F3→A)→A} {A0 B0:Kt→(Nat→Kt)→Kt→Kt} (hzs:ZsOk zs sv) (hzp:ZsOk zp ps) (hA:COkc ys fl A0 a) (hB:COkc ys fl B0 b0):BodyOk ys fl (rndB fl key nv zs zp A0 B0) (.r key nv sv ps a b0):=fun cl3 cl ar h3 h n k f hc hH e=>by
 obtain ⟨y,xs,rfl,h1⟩:=cN_ok e
 obtain ⟨b,rfl,h2⟩:=cMp_ok h1
 obtain ⟨e2,h4⟩:=ifA_y h2
 obtain ⟨b3,rb,_,h5⟩:=hget_ok hH h4
 obtain ⟨c,c3,e3,rc,h6⟩:=bkMp rb h5
 obtain ⟨q,s,e4,h7⟩:=cF_ok (cget_ok rc h6)
 obtain ⟨e5,h8⟩:=ifA_y h7
 obtain ⟨hu,h9⟩:=rd3_ok rc h8
 obtain ⟨t0,e6,t30,hF0,h10⟩:=hzs _ _ _ _ f0_ok h9
 obtain ⟨t1,e7,t31,hF1,h11⟩:=hzp _ _ _ _ hF0 h10
 have st:callF ys cl f (.r key nv sv ps a b0) (.cons (.mp b) xs) fl h n=rndGo key b (code ys cl fl b0) (code ys cl fl a t1 h n):=by
  show bf (Nat.ble fl b) (gMK (SR.bad [205]) (hg h b) fun cs=>gF (.bad [206]) (cg cs 0) fun k _=>bf (Nat.beq k key) (nU (.bad [207]) (rd cs nv 1) fun vs=>gO (.bad [208]) (laySl sv vs te) fun t0=>gO (.bad [209]) (laySl ps xs t0) fun t1=>rndGo key b (code ys cl fl b0) (code ys cl fl a t1 h n)) (.bad [210])) (.bad [211])=_
  rw [e2,e3,bf_t,gMK_bk,e4]
  show bf (Nat.beq q key) _ _=_
  rw [show Nat.beq q key=true from e5,bf_t,nU_of hu,e6]
  show gO (SR.bad [209]) (laySl ps xs t0) _=_
  rw [e7]
  rfl
 rw [st]
 rcases hA _ _ _ _ _ _ _ _ _ _ hc hF1 hH h11 with ⟨t2,h2',n2,t32,h32,e8,hF2,hH2,h12⟩ | ⟨_,_,_,_,_,_,_,_,_,h12⟩ | ⟨_,_,_,_,_,_,_,_,h12⟩
 ·obtain ⟨c2,h33,e9,e10,hH3,h13⟩:=recS_ok hH2 h12
  have st2:rndGo key b (code ys cl fl b0) (code ys cl fl a t1 h n)=rndEnd key b (code ys cl fl b0 t2 (hst h2' (.bk (cst c2 (.fn key (.b true)) 0) MAPZ) b) n2):=by
   rw [e8]
   show gMK (SR.bad [195]) (hg h2' b) (fun cs=>gF (.bad [196]) (cg cs 0) fun k s=>bf (Nat.beq k key) (gB (.bad [197]) s fun busy=>bf busy (.bad [198]) (fT (cst cs (.fn key (.b true)) 0) fun cs=>fT (hst h2' (.bk cs MAPZ) b) fun h=>rndEnd key b (code ys cl fl b0 t2 h n2))) (.bad [199]))=_
   rw [e9,gMK_bk,e10]
   show bf (Nat.beq key key) (fT (cst c2 (.fn key (.b true)) 0) fun cs=>fT (hst h2' (.bk cs MAPZ) b) fun h=>rndEnd key b (code ys cl fl b0 t2 h n2)) _=_
   rw [Nat.beq_refl,bf_t,fT_id,fT_id]
  rw [st2]
  rcases hB _ _ _ _ _ _ _ _ _ _ hc hF2 hH3 h13 with ⟨t4,h4',n4,t34,h34,e11,hF4,hH4,h14⟩ | ⟨id,t4,h4',n4,t34,h34,e11,hF4,hH4,h14⟩ | ⟨t4,h4',n4,t34,h34,e11,hF4,hH4,h14⟩
  ·obtain ⟨c5,h35,e12,e13,hH5,h15⟩:=recS_ok hH4 h14
   rw [e11]
   exact ⟨_,_,_,h35,rndSet_of e12 e13,hH5,h15⟩
  ·obtain ⟨c5,h35,e12,e13,hH5,h15⟩:=recS_ok hH4 h14
   rw [e11]
   exact ⟨_,_,_,h35,rndSet_of e12 e13,hH5,h15⟩
  ·obtain ⟨c5,h35,e12,e13,hH5,h15⟩:=recS_ok hH4 h14
   rw [e11]
   exact ⟨_,_,_,h35,rndSet_of e12 e13,hH5,h15⟩
 ·exact Good.no h12
 ·exact Good.no h12
theorem bw_ok (r:RF):BwOk (bw ys fl r) fun b=>BodyOk ys fl b r:=by
 cases r with
 | r key nv sv ps a b=>
  obtain ⟨zs,e1,hzs⟩:=slZ_ok sv
  obtain ⟨zp,e2,hzp⟩:=slZ_ok ps
  show BwOk (@Zw'.rec F3 (fun _=>Bw) (fun zs=>@Zw'.rec F3 (fun _=>Bw) (fun zp=>@Cw'.rec F3 H3 (fun _=>Bw) (fun A0=>@Cw'.rec F3 H3 (fun _=>Bw) (fun B0=>.mk (rndB fl key nv zs zp A0 B0)) .no (codew ys fl b)) .no (codew ys fl a)) (slZ ps)) (slZ sv)) _
  rw [e1,e2]
  have ha:=codew_ok (ys:=ys) (fl:=fl) a
  have hb:=codew_ok (ys:=ys) (fl:=fl) b
  show BwOk (@Cw'.rec F3 H3 (fun _=>Bw) (fun A0=>@Cw'.rec F3 H3 (fun _=>Bw) (fun B0=>.mk (rndB fl key nv zs zp A0 B0)) .no (codew ys fl b)) .no (codew ys fl a)) _
  revert ha
  cases codew ys fl a with
  | no=>exact fun _=>trivial
  | mk A0=>
   intro ha
   show BwOk (@Cw'.rec F3 H3 (fun _=>Bw) (fun B0=>.mk (rndB fl key nv zs zp A0 B0)) .no (codew ys fl b)) _
   revert hb
   cases codew ys fl b with
   | no=>exact fun _=>trivial
   | mk B0=>exact fun hb=>rndB_ok hzs hzp ha hb
 | f np b rs=>
 obtain ⟨z,e1,hz⟩:=argW_ok np 0
 obtain ⟨r,e2,hr⟩:=resW_ok rs
 show BwOk (@Zw'.rec F3 (fun _=>Bw) (fun z=>@Rw'.rec F3 H3 (fun _=>Bw) (fun r=>@Cw'.rec F3 H3 (fun _=>Bw) (fun c=>.mk (bodyK z c r)) .no (codew ys fl b)) (resW rs)) (argW np 0)) _
 rw [e1,e2]
 have hco:=codew_ok (ys:=ys) (fl:=fl) b
 show BwOk (@Cw'.rec F3 H3 (fun _=>Bw) (fun c=>.mk (bodyK z c r)) .no (codew ys fl b)) _
 revert hco
 cases codew ys fl b with
 | no=>exact fun _=>trivial
 | mk c=>
  intro hco cl3 cl a h3 h n k f hc hH e
  obtain ⟨e3,t3,hF,h1⟩:=hz _ _ _ _ f0_ok e
  have e4:callF ys cl f (.f np b rs) a fl h n=retR (code ys cl fl b (lay a te 0) h n) f rs:=by
   show gO (SR.bad [93]) (chLen a) (fun m=>bf (Nat.beq m np) (retR (code ys cl fl b (lay a te 0) h n) f rs) (.bad [94,f]))=_
   rw [e3]
   show bf (Nat.beq np np) _ _=_
   rw [Nat.beq_refl]
   rfl
  rw [e4]
  rcases hco _ _ _ _ _ _ _ _ _ _ hc hF hH h1 with ⟨t',h',n',t3',h3',e5,hF',hH',h2⟩ | ⟨j,t',h',n',t3',h3',e5,hF',hH',h2⟩ | ⟨t',h',n',t3',h3',e5,hF',hH',h2⟩
  ·obtain ⟨v,e6,h4⟩:=retK_ok hr hF' hH' h2
   rw [e5]
   exact ⟨v,h',n',h3',e6,hH',h4⟩
  ·exact Good.no h2
  ·obtain ⟨v,e6,h4⟩:=retK_ok hr hF' hH' h2
   rw [e5]
   exact ⟨v,h',n',h3',e6,hH',h4⟩
noncomputable def kcY (h:HT) (n z:Nat) (ch:RV):SR:=gK (.bad [160]) (hg h 0) fun cs _=>nU (.bad [161]) (rd cs z 0) fun r=>bf (eqV r ch) (.ok (.b true) h n) (.bad [162])
noncomputable def callY (ys:Ys) (fs:Nat→Option RF) (orc:Nat→RV→Option RV) (kc:Nat→RV→Option (Nat × RV)) (deep:Nat):Cl':=
 @Nat.rec (fun _=>Cl') (fun _ _ _ _ _=>.bad [91]) (fun _ ih f a fl h n=>gO (gO (gO (.bad [92,f]) (fs f) fun r=>callF ys ih f r a fl h n) (orc f a) fun v=>.ok v h n) (kc f a) fun q=>bf (Nat.ble 16777216 q.1) (toldX ys (Nat.sub q.1 16777216) q.2 a fl h n) (kcY h n q.1 q.2)) deep
theorem cOQ_ok {q:Option (Nat × RV)} {n:A} {k:Nat→RV→A} (e:Good (cOQ q n k)):(q=none∧Good n) ∨ ∃ z c,q=some (z,c)∧Good (k z c):=by
 cases q with
 | none=>exact .inl ⟨rfl,e⟩
 | some x=>exact .inr ⟨x.1,x.2,rfl,e⟩
theorem call3_ok (fs:Nat→Option RF) (orc:Nat→RV→Option RV) (kc:Nat→RV→Option (Nat × RV)):∀ deep,ClSim fl (call3 ys fl fs orc kc deep) (callY ys fs orc kc deep)
 | 0=>fun _ _ _ _ _ _ _ e=>Good.no e
 | deep + 1=>fun f a h3 h n k hH e=>by
  have ih:=call3_ok fs orc kc deep
  have ek:callY ys fs orc kc (deep + 1) f a fl h n=gO (gO (gO (.bad [92,f]) (fs f) fun r=>callF ys (callY ys fs orc kc deep) f r a fl h n) (orc f a) fun v=>.ok v h n) (kc f a) fun q=>bf (Nat.ble 16777216 q.1) (toldX ys (Nat.sub q.1 16777216) q.2 a fl h n) (kcY h n q.1 q.2):=rfl
  rcases cOQ_ok (show Good (cOQ (kc f a) (cOV (orc f a) (@Bw'.rec H3 (fun _=>Cl3→RV→H3→Nat→KV→A) (fun b=>b) (fun _ _ _ _ _=>.no) (bwO ys fl (fs f)) (call3 ys fl fs orc kc deep) a h3 n k) (fun v=>k v h3 n)) fun z ch=>ifA (Nat.ble 16777216 z) (told3 ys (Nat.sub z 16777216) ch a fl h3 n k) (kc3 h3 n z ch k)) from e) with ⟨e0,h0⟩ | ⟨z,ch,e0,h0⟩
  case inr=>
   rcases ifA_ok h0 with ⟨hz0,h0⟩ | ⟨hz0,h0⟩
   ·obtain ⟨v,h',n',e2,h3',r',h4⟩:=told3_ok hH h0
    refine ⟨v,h',n',h3',?_,r',h4⟩
    rw [ek,e0]
    show bf (Nat.ble 16777216 z) (toldX ys (Nat.sub z 16777216) ch a fl h n) (kcY h n z ch)=_
    rw [hz0,bf_t]
    exact e2
   obtain ⟨c,z1,c3,hb,rc,_,h1,hmz⟩:=hgetB hH (show Good (hget h3 0 fun bk=>bk .no noM fun c _=>rd3 z c 0 fun r=>ifA (eqV r ch) (k (.b true) h3 n) .no) from h0)
   obtain ⟨hu,h2⟩:=rd3_ok rc h1
   rcases ifA_ok h2 with ⟨h3e,h4⟩ | ⟨_,h4⟩
   case inr=>exact Good.no h4
   refine ⟨.b true,h,n,h3,?_,hH,h4⟩
   rw [ek,e0]
   show bf (Nat.ble 16777216 z) (toldX ys (Nat.sub z 16777216) ch a fl h n) (kcY h n z ch)=_
   rw [hz0]
   show gK (SR.bad [160]) (hg h 0) (fun cs _=>nU (.bad [161]) (rd cs z 0) fun r=>bf (eqV r ch) (.ok (.b true) h n) (.bad [162]))=_
   rw [hb]
   have hz:Nat.beq z1 MAPZ=false:=by
    cases hq:Nat.beq z1 MAPZ with
    | false=>rfl
    | true=>exact absurd (Nat.eq_of_beq_eq_true hq) hmz
   show bf (Nat.beq z1 MAPZ) (SR.bad [160]) (nU (.bad [161]) (rd c z 0) fun r=>bf (eqV r ch) (.ok (.b true) h n) (.bad [162]))=_
   rw [hz]
   show nU (SR.bad [161]) (rd c z 0) (fun r=>bf (eqV r ch) (.ok (.b true) h n) (.bad [162]))=_
   rw [nU_of hu,h3e]
   rfl
  have e0:callY ys fs orc kc (deep + 1) f a fl h n=gO (gO (.bad [92,f]) (fs f) fun r=>callF ys (callY ys fs orc kc deep) f r a fl h n) (orc f a) fun v=>.ok v h n:=by rw [ek,e0]; rfl
  rcases cOV_ok h0 with ⟨e1,h1⟩ | ⟨v,e1,h1⟩
  ·rw [e0,e1]
   show ∃ v h' n' h3',gO (SR.bad [92,f]) (fs f) (fun r=>callF ys (callY ys fs orc kc deep) f r a fl h n)=.ok v h' n'∧HRel h3' h'∧Good (k v h3' n')
   revert h1
   cases fs f with
   | none=>exact fun h1=>Good.no h1
   | some r=>
    intro h1
    have hb:=bw_ok (ys:=ys) (fl:=fl) r
    have h1:Good (@Bw'.rec H3 (fun _=>Cl3→RV→H3→Nat→KV→A) (fun b=>b) (fun _ _ _ _ _=>.no) (bw ys fl r) (call3 ys fl fs orc kc deep) a h3 n k):=h1
    revert h1 hb
    cases bw ys fl r with
    | no=>exact fun _ h1=>Good.no h1
    | mk b=>exact fun hb h1=>hb _ _ _ _ _ _ _ f ih hH h1
  ·rw [e0,e1]
   exact ⟨v,h,n,h3,rfl,hH,h1⟩
theorem isT_ok {v:RV} {h3:H3} {n:Nat} (e:Good (isT v h3 n)):v=.b true:=by
 obtain ⟨x,rfl,h1⟩:=cB_ok e
 rcases ifA_ok h1 with ⟨rfl,_⟩ | ⟨_,h2⟩
 ·rfl
 ·exact Good.no h2
theorem quick {fs:Nat→Option RF} {orc:Nat→RV→Option RV} {kc:Nat→RV→Option (Nat × RV)} {deep f n:Nat} {a:RV} {h3:H3} {h:HT} (hH:HRel h3 h) (e:call3 ys fl fs orc kc deep f a h3 n isT=.yes):∃ h' n',callY ys fs orc kc deep f a fl h n=.ok (.b true) h' n':=by
 obtain ⟨v,h',n',h3',e1,_,h1⟩:=call3_ok fs orc kc deep f a h3 h n isT hH e
 rw [isT_ok h1] at e1
 exact ⟨h',n',e1⟩
end
end Go.Rn
namespace Go.Rn
noncomputable def inL (l:List (Nat × RF)) (f:Nat):Option RF:=@List.rec (Nat × RF) (fun _=>Option RF) none (fun e _ ih=>bf (Nat.beq e.1 f) (some e.2) ih) l
theorem inL_ok {P:Program}:∀ {l:List (Nat × RF)},(∀ e ∈ l,compF P e.1=some e.2)→∀ f r,inL l f=some r→compF P f=some r
 | [],_,f,r,h=>by cases h
 | e::l,ha,f,r,h=>by
  have h1:bf (Nat.beq e.1 f) (some e.2) (inL l f)=some r:=h
  rcases bf_or h1 with ⟨h2,h3⟩ | ⟨_,h3⟩
  ·have:=beq_ok h2
   subst this
   cases h3
   exact ha e List.mem_cons_self
  ·exact inL_ok (fun e he=>ha e (List.mem_cons_of_mem _ he)) f r h3
theorem law_laid {ρ:Nat→Int} {P:Program} {ys:Ys} {fs:Nat→Option RF} {orc:Nat→RV→Option RV} (hy:YsOk ρ ys) (hfs:∀ f r,fs f=some r→compF P f=some r) (ho:OrcOk P ρ orc) {kc:Kc} (hk:KcOk P ρ kc) {deep f g n:Nat} {c:RV} {h0:HT} {m0:Mp} {w:World} (hgn:g≤n) (hd0:∀ b c z,hg h0 b=.bk c z→b < n) (s:Sim P ρ m0 g h0 w) (gl:Glob P ρ m0) (hfree:∀ b,n≤b→m0 b=none)
  (e:∃ h' n',callX ys fs orc kc deep f c n h0 n=.ok (.b true) h' n') {vs:List Value} (hd:denC ρ m0 c vs) (hf:f < 16777216:=by decide) :
  Calls P f vs.toArray w fun e w'=>e=.returned (.bool true)∧Old w w':=by
 obtain ⟨h',n',hx⟩:=e
 obtain ⟨_,hc1,_⟩:=callX_ok (g:=g) hy fs hfs ho hk deep f c n h0 n _ _ _ hx hgn (Nat.le_refl _)
 obtain ⟨_,hc⟩:=hc1 hf
 refine (hc m0 w vs s gl hd (fun b h1 _=>hfree b h1)).mono ?_
 rintro e w' ⟨u,m',rfl,T,hu⟩
 have:u=.bool true:=hu
 subst this
 exact ⟨rfl,T.keep.os,T.keep.tape,T.keep.output,T.keep.size,fun k hk=>T.keep.block k hk (fun b c z O Z hb1 hb=>by have:=hd0 b c z hb; omega)⟩
def PlainV:Value→Prop
 | .int _ _=>True
 | .bool _=>True
 | _=>False
end Go.Rn
namespace Go.Rn
/-! what is known of letters: between which numbers they lie -/
def okZ (l:Int) (h:Int):Option (Int × Int):=if -9223372036854775808≤l∧h≤9223372036854775807 then some (l,h) else none
def ivl (rng:List (Nat × Int × Int)):SE→Option (Int × Int)
 | .v n=>(rng.find? fun e=>Nat.beq e.1 n).map fun e=>e.2
 | .c z=>some (z,z)
 | .add .i64 a b=>match ivl rng a,ivl rng b with | some x,some y=>okZ (x.1 + y.1) (x.2 + y.2) | _,_=>none
 | .sub .i64 a b=>match ivl rng a,ivl rng b with | some x,some y=>okZ (x.1 - y.2) (x.2 - y.1) | _,_=>none
 | .mul .i64 a b=>match ivl rng a,ivl rng b with | some x,some y=>if 0≤x.1∧0≤y.1 then okZ (x.1 * y.1) (x.2 * y.2) else none | _,_=>none
 | _=>none
def decZ (op:BinOp) (x y:Int × Int):Option Bool:=match op with
 | .lss=>if x.2 < y.1 then some true else if y.2≤x.1 then some false else none
 | .leq=>if x.2≤y.1 then some true else if y.2 < x.1 then some false else none
 | .gtr=>if y.2 < x.1 then some true else if x.2≤y.1 then some false else none
 | .geq=>if y.2≤x.1 then some true else if x.2 < y.1 then some false else none
 | .eql=>if x.2 < y.1 ∨ y.2 < x.1 then some false else none
 | .neq=>if x.2 < y.1 ∨ y.2 < x.1 then some true else none
 | _=>none
def ysR (rng:List (Nat × Int × Int)):Ys:=fun op a b=>match ivl rng a,ivl rng b with | some x,some y=>decZ op x y | _,_=>none
theorem okZ_ok {l h:Int} {p:Int × Int} (e:okZ l h=some p):p=(l,h)∧-9223372036854775808≤l∧h≤9223372036854775807:=by
 unfold okZ at e
 split at e
 ·rename_i hc; cases e; exact ⟨rfl,hc⟩
 ·cases e
theorem ivl_ok {ρ:Nat→Int} {rng:List (Nat × Int × Int)} (hr:∀ e ∈ rng,e.2.1≤ρ e.1∧ρ e.1≤e.2.2):∀ (a:SE) (p:Int × Int),ivl rng a=some p→p.1≤a.val ρ∧a.val ρ≤p.2:=by
 intro a
 induction a with
 | v n=>
  intro p e
  obtain ⟨q,h1,rfl⟩:=Option.map_eq_some_iff.1 e
  have h2:=List.find?_some h1
  have h3:=List.mem_of_find?_eq_some h1
  have h4:q.1=n:=Nat.eq_of_beq_eq_true h2
  have:=hr q h3
  rw [h4] at this
  exact this
 | c z=>intro p e; cases e; exact ⟨Int.le_refl _,Int.le_refl _⟩
 | add k a b iha ihb=>
  intro p e
  cases k <;> first | (cases e; done) | skip
  simp only [ivl] at e
  split at e
  ·rename_i x y hx hy
   obtain ⟨rfl,h1,h2⟩:=okZ_ok e
   have ha:=iha _ hx
   have hb:=ihb _ hy
   have e2:(SE.add .i64 a b).val ρ=IntKind.i64.wrap (a.val ρ + b.val ρ):=rfl
   rw [e2,IntWalk.i64_in _ (by omega)]
   exact ⟨by show x.1 + y.1≤_; omega,by show _≤x.2 + y.2; omega⟩
  ·cases e
 | sub k a b iha ihb=>
  intro p e
  cases k <;> first | (cases e; done) | skip
  simp only [ivl] at e
  split at e
  ·rename_i x y hx hy
   obtain ⟨rfl,h1,h2⟩:=okZ_ok e
   have ha:=iha _ hx
   have hb:=ihb _ hy
   have e2:(SE.sub .i64 a b).val ρ=IntKind.i64.wrap (a.val ρ - b.val ρ):=rfl
   rw [e2,IntWalk.i64_in _ (by omega)]
   exact ⟨by show x.1 - y.2≤_; omega,by show _≤x.2 - y.1; omega⟩
  ·cases e
 | xor a b _ _=>intro p e; cases e
 | qu a n _=>intro p e; cases e
 | mul k a b iha ihb=>
  intro p e
  cases k <;> first | (cases e; done) | skip
  simp only [ivl] at e
  split at e
  ·rename_i x y hx hy
   split at e
   ·rename_i hc
    obtain ⟨rfl,h1,h2⟩:=okZ_ok e
    have ha:=iha _ hx
    have hb:=ihb _ hy
    have h3:x.1 * y.1≤a.val ρ * b.val ρ:=Int.mul_le_mul ha.1 hb.1 hc.2 (by omega)
    have h4:a.val ρ * b.val ρ≤x.2 * y.2:=Int.mul_le_mul ha.2 hb.2 (by omega) (by omega)
    have e2:(SE.mul .i64 a b).val ρ=IntKind.i64.wrap (a.val ρ * b.val ρ):=rfl
    rw [e2,IntWalk.i64_in _ (by omega)]
    exact ⟨h3,h4⟩
   ·cases e
  ·cases e
theorem ysR_ok {ρ:Nat→Int} {rng:List (Nat × Int × Int)} (hr:∀ e ∈ rng,e.2.1≤ρ e.1∧ρ e.1≤e.2.2):YsOk ρ (ysR rng):=by
 intro op a b r e
 unfold ysR at e
 split at e
 ·rename_i x y hx hy
  refine .inl ?_
  have ha:=ivl_ok hr a x hx
  have hb:=ivl_ok hr b y hy
  unfold decZ at e
  split at e <;> (try (cases e; done)) <;> (repeat' (split at e)) <;> (try (cases e; done)) <;> cases e <;> simp only [cmpZ,Option.some.injEq,decide_eq_true_eq,decide_eq_false_iff_not] <;> first | omega | (simp; omega)
 ·cases e
end Go.Rn
namespace Go.Rn
variable {ρ:Nat→Int} {P:Program}
def letters:Nat→Nat→RV
 | 0,_=>.nil
 | q + 1,i=>.cons (.y .i64 (.v (100 + i))) (letters q (i + 1))
end Go.Rn
