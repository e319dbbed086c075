/-
  Calls that are told to the runner over relations of a graph: what they make, as a formula. Conditions: a graph that may be, in memory.
-/
import Derived.Test.YthcnhbclagegeaaGreatDoorMp
import Derived.Test.YthcnhbclagegeaaGreatDoorMu
import Derived.Test.YthcnhbclagegeaaGreatDoorRnZg
set_option maxRecDepth 20000
namespace Go.Proofs.YthcnhbclagegeaaGreatDoor
open Go.RowKit RelA
section
namespace ToldP
open Go.Rn (Rho RV Mp Tells Yhv Zkv den Zbg denC_cons denC_nil Ztz Zap Zca Yhn Zbh Zev dsc_cons dsc_nil Za7 Zya)
def jU(F k:Nat)(a:RV):RV:=.fn F (.cons (.tup (.cons (.mp k) a)) .nil)
def jB(F k:Nat)(a b:RV):RV:=.fn F (.cons (.tup (.cons (.mp k) a)) (.cons (.tup (.cons (.mp k) b)) .nil))
abbrev Mx:=Nat->Nat->Bool
def Rk:Nat->World->Nat->Nat->Mx->Prop
 | 1=>Rl
 | _=>Rr
def Zfh (k n:Nat) (M:Mx) (w:World) (e:Ending) (w':World):Prop:=∃ d,e=.returned (.pointer (some ⟨d,0,none⟩))/\Rk k w' d n M/\w.heap.size<=d/\Below w.heap.size w w'
theorem Rk.obj {k:Nat} {w:World} {d n:Nat} {M:Mx} (h:Rk k w d n M):∃ C el fr,w.heap[d]?=some (.cells C el fr):=by
 unfold Rk at h
 split at h
 ·obtain⟨⟨R,h1,_⟩,_⟩:=h
  exact⟨_,_,_,h1⟩
 ·exact⟨_,_,_,h.at_⟩
theorem Rk.move {k:Nat} {w w':World} {d b n:Nat} {M:Mx} {o:Obj} (h:Rk k w d n M) (h1:w.heap[d]?=some o) (h2:w'.heap[b]?=some o):Rk k w' b n M:=by
 unfold Rk at h ⊢
 split at h
 ·obtain⟨⟨R,h3,h4⟩,h5⟩:=h
  refine⟨⟨R,?_,h4⟩,h5⟩
  unfold At at h3 ⊢
  rw[h2,<- h1,h3]
 ·obtain⟨h3,h5⟩:=h
  refine⟨?_,h5⟩
  unfold RAt at h3 ⊢
  rw[h2,<- h1,h3]
def Zyc (g:Gr) (A:Mx):Mx:=Zfe A (Zbm g.E A)
noncomputable def Zac (g:Gr):M4
 | 0=>orM (orM (ofM g.n g.Data) (Zky (Zbm g.E (Zg1 g.E)) (Zax (Zyc g (Zax (Zff (rfM g)) (coM g))) (Zyc g (rfM g))))) (Zbm g.E (rfM g))
 | 1=>Za1
 | 2=>orM (Zax (ofM g.n g.CtrlI) (orM (evM g 1 []) (evM g 2 []))) (Zky (Zbm g.E (Zg1 g.E)) (Zax (Zyc g (coM g)) (Zyc g (rfM g))))
 | 3=>orM (orM (ofM g.n g.Data) (Zbm g.E (Zg1 g.E))) (Zax (ofM g.n g.Ctrl) (orM (evM g 1 []) (evM g 2 [])))
 | _=>Za1
noncomputable def opM (g:Gr) (X:List (Int×Int)) (MM:M4):Nat->List Mx->Mx
 | 1,_=>rfM g
 | 2,_=>coM g
 | 5,_=>Zg1 g.E
 | 6,_=>poM g.E
 | 10,[a,b]=>orM a b
 | 11,[a,b]=>Zky a b
 | 12,[a,b]=>Zfe a b
 | 13,[a,b]=>Zax a b
 | 14,[a]=>Zff a
 | 15,[a]=>Zbl a
 | 16,[a]=>Zco g.n a
 | 20,[a]=>Zbm g.E a
 | 21,[a]=>Zcn g.E a
 | 30,_=>ofM g.n g.Rmw
 | 31,_=>ofM g.n g.Data
 | 32,_=>ofM g.n g.Ctrl
 | 33,_=>ofM g.n g.CtrlI
 | 34,_=>Za1
 | 35,_=>ofM g.n X
 | 40,_=>evM g 1 []
 | 41,_=>evM g 2 []
 | 42,_=>evM g 3 []
 | 43,_=>evM g 2 [2]
 | 44,_=>evM g 1 [1]
 | 45,_=>evM g 3 [2,3,4]
 | 46,_=>evM g 3 [1,3,4]
 | 47,_=>evM g 3 [4]
 | 48,_=>evM g 3 [3]
 | 60,_=>kM g 2 0 2
 | 61,_=>kM g 2 2 2
 | 62,_=>kM g 1 1 1
 | 63,_=>kM g 3 2 4
 | 64,_=>kM g 3 1 1
 | 65,_=>kM g 3 3 4
 | 66,_=>kM g 3 1 4
 | 67,_=>kM g 1 0 1
 | 68,_=>kM g 3 4 4
 | 69,_=>kM g 3 3 3
 | 70,_=>kM g 1 0 4
 | 71,_=>kM g 2 0 4
 | 80,_=>Zg7 g.n fun i=>exB (Ev.at g.E i)
 | 81,_=>Yrz g
 | 22,[a]=>mnM g.E a
 | 90,_=>MM 0
 | 91,_=>MM 1
 | 92,_=>MM 2
 | 93,_=>MM 3
 | 100,_=>Zk7 (Zac g) 0
 | 101,_=>Zk7 (Zac g) 1
 | 102,_=>Zk7 (Zac g) 2
 | 103,_=>Zk7 (Zac g) 3
 | 104,_=>Zac g 0
 | 105,_=>Zac g 1
 | 106,_=>Zac g 2
 | 107,_=>Zac g 3
 | _,_=>Za1
noncomputable def Zpf (g:Gr) (X:List (Int×Int)) (MM:M4):RV->List Mx
 | .fn F c=>[opM g X MM F (Zpf g X MM c)]
 | .cons x r=>Zpf g X MM x++Zpf g X MM r
 | .tup t=>[(Zpf g X MM t).headD Za1]
 | _=>[]
noncomputable def mx (g:Gr) (X:List (Int×Int)) (MM:M4) (t:RV):Mx:=(Zpf g X MM t).headD Za1
theorem Yrd (g:Gr) (X:List (Int×Int)) (MM:M4) (F:Nat) (c:RV):mx g X MM (.fn F c)=opM g X MM F (Zpf g X MM c):=rfl
theorem Zhh (g:Gr) (X:List (Int×Int)) (MM:M4) (k:Nat) (t r:RV):Zpf g X MM (.cons (.tup (.cons (.mp k) t)) r)=mx g X MM t::Zpf g X MM r:=rfl
theorem Zpt (g:Gr) (X:List (Int×Int)) (MM:M4):Zpf g X MM .nil=[]:=rfl
def thR (g:Gr) (X:List (Int×Int)) (MM:M4) (t:RV) (o:Obj):Prop:=match t with
 | .cons (.mp k) t=>∀ (w:World) (b:Nat),w.heap[b]?=some o->Rk k w b g.n (mx g X MM t)
 | _=>False
def rho (g:Gr) (xa:Option Addr) (X:List (Int×Int)) (xc:Nat) (w0:World) (MM:M4):Rho where
 i:=fun k=>match k with
  | 0=>g.locs | 1=>g.E.length | 2=>g.R.length | 3=>g.C.length | 4=>g.Rmw.length | 5=>g.Data.length | 6=>g.Ctrl.length | 7=>g.CtrlI.length | 8=>X.length | _=>0
 s:=fun k=>match k with
  | 1=>(g.ea,g.ec) | 2=>(g.ra,g.rc) | 3=>(g.ca,g.cc) | 4=>(g.ma,g.mc) | 5=>(g.da,g.dc) | 6=>(g.ta,g.tc) | 7=>(g.ia,g.ic) | 8=>(xa,xc) | _=>(none,0)
 th:=thR g X MM
 w0:=some w0
noncomputable def opS (k:Nat):RV:=.fn 33554432 (.cons (.i .i64 (.ofNat k)) (.cons (.y .i64 (.v k)) .nil))
noncomputable def gR:RV:=.agg (.cons (.y .i64 (.v 0)) (.cons (opS 1) (.cons (opS 2) (.cons (opS 3) (.cons (opS 4) (.cons (opS 5) (.cons (opS 6) (.cons (opS 7) .nil))))))))
noncomputable def jG(F k:Nat)(a:RV):RV:=.fn F (.cons gR (.cons (.tup (.cons (.mp k) a)) .nil))
noncomputable def jH(F k:Nat)(a:RV)(b:Bool):RV:=.fn F (.cons gR (.cons (.tup (.cons (.mp k) a)) (.cons (.b b) .nil)))
noncomputable def nR:RV:=.y .i64 (.v 1)
def ysE:Go.Rn.Ys:=fun op a b=>match op,a,b with
 | .geq,.v (k+1),.c (.ofNat 0)=>bif Nat.blt k 8 then some true else none
 | _,_,_=>none
variable {g:Gr} {xa:Option Addr} {X:List (Int×Int)} {xc:Nat} {w0:World} {MM:M4}
theorem Zcu:Go.Rn.YsOk (rho g xa X xc w0 MM) ysE:=by
 intro op a b r h
 unfold ysE at h
 split at h
 ·rename_i k
  left
  have hk:k<8/\r=true:=by
   cases hb:Nat.blt k 8
   ·rw[hb] at h;cases h
   ·rw[hb] at h
    have h':some true=some r:=h
    cases h'
    exact⟨by simpa using hb,rfl⟩
  obtain⟨hk,rfl⟩:=hk
  show some (decide ((rho g xa X xc w0 MM).i (k+1)≥0))=some true
  have:(rho g xa X xc w0 MM).i (k+1)≥0:=by
   match k,hk with
   | 0,_=>exact Int.natCast_nonneg _
   | 1,_=>exact Int.natCast_nonneg _
   | 2,_=>exact Int.natCast_nonneg _
   | 3,_=>exact Int.natCast_nonneg _
   | 4,_=>exact Int.natCast_nonneg _
   | 5,_=>exact Int.natCast_nonneg _
   | 6,_=>exact Int.natCast_nonneg _
   | 7,_=>exact Int.natCast_nonneg _
  simp[this]
 ·cases h
theorem Zi1 {m:Mp} {k:Nat} {v:Value} (hd:den (rho g xa X xc w0 MM) m (opS k) v):v=.slice ((rho g xa X xc w0 MM).s k).1 ((rho g xa X xc w0 MM).i k).toNat ((rho g xa X xc w0 MM).s k).2:=by
 obtain⟨cs,h1,rfl⟩:=hd
 obtain⟨u1,us1,rfl,d1,d2⟩:=denC_cons.1 h1
 obtain⟨u2,us2,rfl,d3,d4⟩:=denC_cons.1 d2
 have:=denC_nil.1 d4
 subst this
 have d1:u1=.int .i64 (Int.ofNat k):=d1
 have d3:u2=.int .i64 ((rho g xa X xc w0 MM).i k):=d3
 subst d1 d3
 rw[Go.Rn.fnV_open (Nat.le_refl _)]
 rfl
theorem Zl8 {m:Mp} {v:Value} (hd:den (rho g xa X xc w0 MM) m gR v):v=g.v:=by
 obtain⟨cs,h1,_,rfl⟩:=hd
 obtain⟨u0,_,rfl,d0,h1⟩:=denC_cons.1 h1
 obtain⟨u1,_,rfl,d1,h1⟩:=denC_cons.1 h1
 obtain⟨u2,_,rfl,d2,h1⟩:=denC_cons.1 h1
 obtain⟨u3,_,rfl,d3,h1⟩:=denC_cons.1 h1
 obtain⟨u4,_,rfl,d4,h1⟩:=denC_cons.1 h1
 obtain⟨u5,_,rfl,d5,h1⟩:=denC_cons.1 h1
 obtain⟨u6,_,rfl,d6,h1⟩:=denC_cons.1 h1
 obtain⟨u7,_,rfl,d7,h1⟩:=denC_cons.1 h1
 have:=denC_nil.1 h1
 subst this
 have d0:u0=.int .i64 g.locs:=d0
 rw[d0,Zi1 d1,Zi1 d2,Zi1 d3,Zi1 d4,Zi1 d5,Zi1 d6,Zi1 d7]
 rfl
theorem Zjz (m:Mp) (k:Nat):den (rho g xa X xc w0 MM) m (opS k) (.slice ((rho g xa X xc w0 MM).s k).1 ((rho g xa X xc w0 MM).i k).toNat ((rho g xa X xc w0 MM).s k).2):=
 ⟨[.int .i64 (Int.ofNat k),.int .i64 ((rho g xa X xc w0 MM).i k)],denC_cons.2 ⟨_,_,rfl,rfl,denC_cons.2 ⟨_,_,rfl,rfl,denC_nil.2 rfl⟩⟩,by rw[Go.Rn.fnV_open (Nat.le_refl _)];rfl⟩
theorem Zg4 (m:Mp):den (rho g xa X xc w0 MM) m gR g.v:=by
 refine⟨[_,_,_,_,_,_,_,_],denC_cons.2 ⟨_,_,rfl,rfl,denC_cons.2 ⟨_,_,rfl,Zjz m 1,denC_cons.2 ⟨_,_,rfl,Zjz m 2,denC_cons.2 ⟨_,_,rfl,Zjz m 3,denC_cons.2 ⟨_,_,rfl,Zjz m 4,denC_cons.2 ⟨_,_,rfl,Zjz m 5,denC_cons.2 ⟨_,_,rfl,Zjz m 6,denC_cons.2 ⟨_,_,rfl,Zjz m 7,denC_nil.2 rfl⟩⟩⟩⟩⟩⟩⟩⟩,?_,rfl⟩
 intro x hx
 simp only[List.mem_cons,List.not_mem_nil,or_false] at hx
 rcases hx with rfl | rfl | rfl | rfl | rfl | rfl | rfl | rfl<;>rfl
theorem Zgk {w:World} (h:(rho g xa X xc w0 MM).Old w):Below w0.heap.size w0 w:=h
theorem made {k n F:Nat} {ds:RV} {M:Mx} {w w':World} {e:Ending} (hn:n=g.n) (hM:opM g X MM F (Zpf g X MM ds)=M) (h:Zfh k n M w e w'):∃ (B:Nat) (C:Array Value) (el:TypeId) (fr:Nat×Nat),e=.returned (Zya B)/\w.heap.size<=B/\w'.heap[B]?=some (.cells C el fr) /\
  (rho g xa X xc w0 MM).th (.cons (.mp k) (.fn F ds)) (.cells C el fr)/\Go.Rn.Old w w':=by
 obtain⟨d,rfl,hat,hnw,hb⟩:=h
 obtain⟨C,el,fr,hC⟩:=hat.obj
 refine⟨d,C,el,fr,rfl,hnw,hC,fun W b hW=>?_,Za7 hb⟩
 rw[Yrd,hM,<- hn]
 exact hat.move hC hW
theorem told {m:Mp} {k:Nat} {t:RV} {w:World} {v:Value} (h:Yhv (rho g xa X xc w0 MM) m w (.tup (.cons (.mp k) t)) v):∃ b,v=.pointer (some ⟨b,0,none⟩)/\Rk k w b g.n (mx g X MM t):=by
 obtain⟨B,C,el,fr,rfl,h1,h2⟩:=h
 exact⟨B,rfl,h2 w B h1⟩
theorem Zj5 (k:Nat):gR≠.mp k:=by intro h;cases h
theorem Znq {f F k:Nat} {M:Mx} (hF:opM g X MM F []=M) (hc:∀ w,Below w0.heap.size w0 w->Calls Tryz.prog f #[g.v] w (Zfh k g.n M w)):Go.Rn.Way Tryz.prog (rho g xa X xc w0 MM) f F (.mp k) (.cons gR .nil):=by
 intro ds hs m w vs hw hd
 obtain⟨y,t,rfl,h1,h2⟩:=Zap hs
 obtain rfl:=Zca h2
 obtain rfl:=Zbh Zj5 h1
 obtain⟨x,xs,rfl,d1,d2⟩:=dsc_cons hd
 obtain rfl:=dsc_nil d2
 obtain rfl:=Zl8 (m:=m) d1
 exact(hc w (Zgk hw)).mono fun e w' h=>made rfl hF h
theorem Zsu {f F k k':Nat} {op:Mx->Mx} (hF:∀ a,opM g X MM F [a]=op a) (hc:∀ w b M,Below w0.heap.size w0 w->Rk k w b g.n M->Calls Tryz.prog f #[.pointer (some ⟨b,0,none⟩)] w (Zfh k' g.n (op M) w)):Go.Rn.Way Tryz.prog (rho g xa X xc w0 MM) f F (.mp k') (.cons (.mp k) .nil):=by
 intro ds hs m w vs hw hd
 obtain⟨y,t,rfl,h1,h2⟩:=Zap hs
 obtain rfl:=Zca h2
 obtain⟨s,rfl⟩:=Zev h1
 obtain⟨x,xs,rfl,d1,d2⟩:=dsc_cons hd
 obtain rfl:=dsc_nil d2
 obtain⟨b,rfl,hr⟩:=told d1
 exact(hc w b _ (Zgk hw) hr).mono fun e w' h=>made rfl (by rw[Zhh,Zpt,hF]) h
theorem Znr {f F k:Nat} {op:Mx->Mx->Mx} (hF:∀ a b,opM g X MM F [a,b]=op a b) (hc:∀ w b c M S,Below w0.heap.size w0 w->Rk k w b g.n M->Rk k w c g.n S->Calls Tryz.prog f #[.pointer (some ⟨b,0,none⟩),.pointer (some ⟨c,0,none⟩)] w (Zfh k g.n (op M S) w)) :
  Go.Rn.Way Tryz.prog (rho g xa X xc w0 MM) f F (.mp k) (.cons (.mp k) (.cons (.mp k) .nil)):=by
 intro ds hs m w vs hw hd
 obtain⟨y,t,rfl,h1,h2⟩:=Zap hs
 obtain⟨y2,t2,rfl,h3,h4⟩:=Zap h2
 obtain rfl:=Zca h4
 obtain⟨s,rfl⟩:=Zev h1
 obtain⟨s2,rfl⟩:=Zev h3
 obtain⟨x,xs,rfl,d1,d2⟩:=dsc_cons hd
 obtain⟨x2,xs2,rfl,d3,d4⟩:=dsc_cons d2
 obtain rfl:=dsc_nil d4
 obtain⟨b,rfl,hr⟩:=told d1
 obtain⟨c,rfl,hr2⟩:=told d3
 exact(hc w b c _ _ (Zgk hw) hr hr2).mono fun e w' h=>made rfl (by rw[Zhh,Zhh,Zpt,hF]) h
theorem Ycn {f F k:Nat} {op:Mx->Mx} (hF:∀ a,opM g X MM F [a]=op a) (hc:∀ w b M,Below w0.heap.size w0 w->Rk k w b g.n M->Calls Tryz.prog f #[g.v,.pointer (some ⟨b,0,none⟩)] w (Zfh k g.n (op M) w)):Go.Rn.Way Tryz.prog (rho g xa X xc w0 MM) f F (.mp k) (.cons gR (.cons (.mp k) .nil)):=by
 intro ds hs m w vs hw hd
 obtain⟨y,t,rfl,h1,h2⟩:=Zap hs
 obtain⟨y2,t2,rfl,h3,h4⟩:=Zap h2
 obtain rfl:=Zca h4
 obtain rfl:=Zbh Zj5 h1
 obtain⟨s2,rfl⟩:=Zev h3
 obtain⟨x,xs,rfl,d1,d2⟩:=dsc_cons hd
 obtain⟨x2,xs2,rfl,d3,d4⟩:=dsc_cons d2
 obtain rfl:=dsc_nil d4
 obtain rfl:=Zl8 (m:=m) d1
 obtain⟨c,rfl,hr2⟩:=told d3
 exact(hc w c _ (Zgk hw) hr2).mono fun e w' h=>made rfl (by show opM g X MM F (Zpf g X MM (.cons (.tup (.cons (.mp k) s2)) .nil))=_;rw[Zhh,Zpt,hF]) h
theorem Zvj {f F k:Nat} {op:Mx->Mx} (one:Bool) (hF:∀ a,opM g X MM F [a]=op a) (hc:∀ w b M,Below w0.heap.size w0 w->Rk k w b g.n M->Calls Tryz.prog f #[g.v,.pointer (some ⟨b,0,none⟩),.bool one] w (Zfh k g.n (op M) w)) :
  Go.Rn.Way Tryz.prog (rho g xa X xc w0 MM) f F (.mp k) (.cons gR (.cons (.mp k) (.cons (.b one) .nil))):=by
 intro ds hs m w vs hw hd
 obtain⟨y,t,rfl,h1,h2⟩:=Zap hs
 obtain⟨y2,t2,rfl,h3,h4⟩:=Zap h2
 obtain⟨y3,t3,rfl,h5,h6⟩:=Zap h4
 obtain rfl:=Zca h6
 obtain rfl:=Zbh Zj5 h1
 obtain⟨s2,rfl⟩:=Zev h3
 obtain rfl:=Zbh (by intro k h;cases h) h5
 obtain⟨x,xs,rfl,d1,d2⟩:=dsc_cons hd
 obtain⟨x2,xs2,rfl,d3,d4⟩:=dsc_cons d2
 obtain⟨x3,xs3,rfl,d5,d6⟩:=dsc_cons d4
 obtain rfl:=dsc_nil d6
 obtain rfl:=Zl8 (m:=m) d1
 obtain⟨c,rfl,hr2⟩:=told d3
 have d5:x3=.bool one:=d5
 subst d5
 exact(hc w c _ (Zgk hw) hr2).mono fun e w' h=>made rfl (by show opM g X MM F (Zpf g X MM (.cons (.tup (.cons (.mp k) s2)) (.cons (.b one) .nil)))=_;rw[Zhh];show opM g X MM F [_]=_;rw[hF]) h
theorem Zek {f F k j:Nat} {M:Mx} (hF:∀ l,opM g X MM F l=M)
  (hc:∀ w,Below w0.heap.size w0 w->Calls Tryz.prog f #[.int .i64 g.n,.slice ((rho g xa X xc w0 MM).s j).1 ((rho g xa X xc w0 MM).i j).toNat ((rho g xa X xc w0 MM).s j).2] w (Zfh k g.n M w)):Go.Rn.Way Tryz.prog (rho g xa X xc w0 MM) f F (.mp k) (.cons nR (.cons (opS j) .nil)):=by
 intro ds hs m w vs hw hd
 obtain⟨y,t,rfl,h1,h2⟩:=Zap hs
 obtain⟨y2,t2,rfl,h3,h4⟩:=Zap h2
 obtain rfl:=Zca h4
 obtain rfl:=Zbh (by intro k h;cases h) h1
 obtain rfl:=Zbh (by intro k h;cases h) h3
 obtain⟨x,xs,rfl,d1,d2⟩:=dsc_cons hd
 obtain⟨x2,xs2,rfl,d3,d4⟩:=dsc_cons d2
 obtain rfl:=dsc_nil d4
 have d1:x=.int .i64 g.n:=d1
 subst d1
 obtain rfl:=Zi1 (m:=m) (k:=j) d3
 exact(hc w (Zgk hw)).mono fun e w' h=>made rfl (hF _) h
theorem Zrh {f F k:Nat} {M:Mx} (hF:opM g X MM F []=M)
  (hc:∀ w,Below w0.heap.size w0 w->Calls Tryz.prog f #[.int .i64 g.n,.slice none 0 0] w (Zfh k g.n M w)):Go.Rn.Way Tryz.prog (rho g xa X xc w0 MM) f F (.mp k) (.cons nR (.cons .ns .nil)):=by
 intro ds hs m w vs hw hd
 obtain⟨y,t,rfl,h1,h2⟩:=Zap hs
 obtain⟨y2,t2,rfl,h3,h4⟩:=Zap h2
 obtain rfl:=Zca h4
 obtain rfl:=Zbh (by intro k h;cases h) h1
 obtain rfl:=Zbh (by intro k h;cases h) h3
 obtain⟨x,xs,rfl,d1,d2⟩:=dsc_cons hd
 obtain⟨x2,xs2,rfl,d3,d4⟩:=dsc_cons d2
 obtain rfl:=dsc_nil d4
 have d1:x=.int .i64 g.n:=d1
 have d3:x2=.slice none 0 0:=d3
 subst d1 d3
 exact(hc w (Zgk hw)).mono fun e w' h=>made rfl hF h
theorem Zps {f F:Nat} {kd:Int} {M:Mx} (hF:opM g X MM F []=M)
  (hc:∀ w,Below w0.heap.size w0 w->Calls Tryz.prog f #[g.v,.int .i64 kd,.slice none 0 0] w (Zfh 1 g.n M w)):Go.Rn.Way Tryz.prog (rho g xa X xc w0 MM) f F (.mp 1) (.cons gR (.cons (.i .i64 kd) (.cons .ns .nil))):=by
 intro ds hs m w vs hw hd
 obtain⟨y,t,rfl,h1,h2⟩:=Zap hs
 obtain⟨y2,t2,rfl,h3,h4⟩:=Zap h2
 obtain⟨y3,t3,rfl,h5,h6⟩:=Zap h4
 obtain rfl:=Zca h6
 obtain rfl:=Zbh Zj5 h1
 obtain rfl:=Zbh (by intro k h;cases h) h3
 obtain rfl:=Zbh (by intro k h;cases h) h5
 obtain⟨x,xs,rfl,d1,d2⟩:=dsc_cons hd
 obtain⟨x2,xs2,rfl,d3,d4⟩:=dsc_cons d2
 obtain⟨x3,xs3,rfl,d5,d6⟩:=dsc_cons d4
 obtain rfl:=dsc_nil d6
 obtain rfl:=Zl8 (m:=m) d1
 have d3:x2=.int .i64 kd:=d3
 have d5:x3=.slice none 0 0:=d5
 subst d3 d5
 exact(hc w (Zgk hw)).mono fun e w' h=>made rfl hF h
theorem Zi9 {f F:Nat} {kd lo hi:Int} {M:Mx} (hF:opM g X MM F []=M)
  (hc:∀ w,Below w0.heap.size w0 w->Calls Tryz.prog f #[g.v,.int .i64 kd,.int .i64 lo,.int .i64 hi] w (Zfh 2 g.n M w)):Go.Rn.Way Tryz.prog (rho g xa X xc w0 MM) f F (.mp 2) (.cons gR (.cons (.i .i64 kd) (.cons (.i .i64 lo) (.cons (.i .i64 hi) .nil)))):=by
 intro ds hs m w vs hw hd
 obtain⟨y,t,rfl,h1,h2⟩:=Zap hs
 obtain⟨y2,t2,rfl,h3,h4⟩:=Zap h2
 obtain⟨y3,t3,rfl,h5,h6⟩:=Zap h4
 obtain⟨y4,t4,rfl,h7,h8⟩:=Zap h6
 obtain rfl:=Zca h8
 obtain rfl:=Zbh Zj5 h1
 obtain rfl:=Zbh (by intro k h;cases h) h3
 obtain rfl:=Zbh (by intro k h;cases h) h5
 obtain rfl:=Zbh (by intro k h;cases h) h7
 obtain⟨x,xs,rfl,d1,d2⟩:=dsc_cons hd
 obtain⟨x2,xs2,rfl,d3,d4⟩:=dsc_cons d2
 obtain⟨x3,xs3,rfl,d5,d6⟩:=dsc_cons d4
 obtain⟨x4,xs4,rfl,d7,d8⟩:=dsc_cons d6
 obtain rfl:=dsc_nil d8
 obtain rfl:=Zl8 (m:=m) d1
 have d3:x2=.int .i64 kd:=d3
 have d5:x3=.int .i64 lo:=d5
 have d7:x4=.int .i64 hi:=d7
 subst d3 d5 d7
 exact(hc w (Zgk hw)).mono fun e w' h=>made rfl hF h
noncomputable def chI:List Int->RV
 | []=>.nil
 | x::l=>.cons (.i .i64 x) (chI l)
theorem Zws {ρ:Rho} {m:Mp}:∀ {l:List Int} {xs:List Value},Zbg ρ m (chI l) xs->xs=l.map (Value.int .i64)
 | [],xs,h=>denC_nil.1 h
 | x::l,xs,h=>by
  obtain⟨u,us,rfl,h1,h2⟩:=denC_cons.1 h
  have h1:u=.int .i64 x:=h1
  rw[h1,Zws h2]
  rfl
theorem Zk9 {f F:Nat} {kd x0:Int} {l:List Int} {M:Mx} (hF:opM g X MM F []=M)
  (hc:∀ w a c,Below w0.heap.size w0 w->NsIn w a (x0::l)->Calls Tryz.prog f #[g.v,.int .i64 kd,.slice a (x0::l).length c] w (Zfh 1 g.n M w)) (hv:∀ l,Zpf g X MM (chI l)=[]):Go.Rn.Way Tryz.prog (rho g xa X xc w0 MM) f F (.mp 1) (.cons gR (.cons (.i .i64 kd) (.cons (chI (x0::l)) .nil))):=by
 intro ds hs m w vs hw hd
 obtain⟨y,t,rfl,h1,h2⟩:=Zap hs
 obtain⟨y2,t2,rfl,h3,h4⟩:=Zap h2
 obtain⟨y3,t3,rfl,h5,h6⟩:=Zap h4
 obtain rfl:=Zca h6
 obtain rfl:=Zbh Zj5 h1
 obtain rfl:=Zbh (by intro k h;cases h) h3
 obtain rfl:=Zbh (by intro k h;cases h) h5
 obtain⟨x,xs,rfl,d1,d2⟩:=dsc_cons hd
 obtain⟨x2,xs2,rfl,d3,d4⟩:=dsc_cons d2
 obtain⟨x3,xs3,rfl,d5,d6⟩:=dsc_cons d4
 obtain rfl:=dsc_nil d6
 obtain rfl:=Zl8 (m:=m) d1
 have d3:x2=.int .i64 kd:=d3
 subst d3
 obtain⟨B,O,c,us,rfl,_,h7,h8⟩:=(show ∃ (B O c:Nat) (xs:List Value),x3=.slice (some ⟨B,O,none⟩) xs.length c/\xs.length<=c/\Zbg (rho g xa X xc w0 MM) m (chI (x0::l)) xs/\∀ (j:Nat) (x:Value),xs[j]?=some x->w.cell? ⟨B,O+j,none⟩=some x from d5)
 obtain rfl:=Zws h7
 have hin:NsIn w (some ⟨B,O,none⟩) (x0::l):=by
  refine .inr ⟨B,O,rfl,?_,fun q hq=>?_⟩
  ·have h9:=h8 0 (.int .i64 x0) rfl
   exact World.block_lt_of_cell? w _ h9
  ·refine h8 q _ ?_
   rw[List.getElem?_map,List.getD_eq_getElem?_getD]
   rw[List.getElem?_eq_getElem hq]
   rfl
 have hh:=hc w _ c (Zgk hw) hin
 rw[show(x0::l).length=((x0::l).map (Value.int .i64)).length by simp] at hh
 refine hh.mono fun e w' h=>made rfl ?_ h
 show opM g X MM F ([]++(Zpf g X MM (chI (x0::l)) ++ []))=M
 rw[hv]
 exact hF
theorem Zgr (g:Gr) (X:List (Int×Int)) (MM:M4):∀ l,Zpf g X MM (chI l)=[]
 | []=>rfl
 | x::l=>by
  show []++Zpf g X MM (chI l)=[]
  rw[Zgr g X MM l]
  rfl
end ToldP
end
section
namespace ToldP
open Go.Rn (Rho RV Mp Tells chW Zaj)
structure Cx (g:Gr) (xa:Option Addr) (X:List (Int×Int)) (xc:Nat) (w0:World):Prop where
 gin:GIn w0 g
 tab:Tab w0
 ck:CheckOk g
 xin:PIn w0 xa X xc
 xl:X.length<=300
variable {g:Gr} {xa:Option Addr} {X:List (Int×Int)} {xc:Nat} {w0:World} {MM:M4}
noncomputable def Zyt:List (Nat×RV×RV):=[(35,.mp 1,(.cons nR (.cons (opS 8) .nil))),(30,.mp 1,(.cons nR (.cons (opS 4) .nil))),(31,.mp 1,(.cons nR (.cons (opS 5) .nil))),(32,.mp 1,(.cons nR (.cons (opS 6) .nil))),(33,.mp 1,(.cons nR (.cons (opS 7) .nil))),(34,.mp 1,(.cons nR (.cons .ns .nil)))]
theorem Yig (c:Cx g xa X xc w0):Tells Tryz.prog (rho g xa X xc w0 MM) (152,0,chW Zyt):=Zaj (by kernel_rfl) (by
 intro x hx
 unfold Zyt at hx
 simp only[List.mem_cons,List.not_mem_nil,or_false] at hx
 rcases hx with rfl | rfl | rfl | rfl | rfl | rfl
 ·exact Zek (j:=8) (fun _=>rfl) (fun w hb=>Zj1 g.n xa X xc w c.gin.e40 c.xl (c.xin.next hb))
 ·exact Zek (j:=4) (fun _=>rfl) (fun w hb=>Zj1 g.n g.ma g.Rmw g.mc w c.gin.e40 (by have:=c.gin.m50;omega) (c.gin.next hb).rmw)
 ·exact Zek (j:=5) (fun _=>rfl) (fun w hb=>Zj1 g.n g.da g.Data g.dc w c.gin.e40 c.gin.d300 (c.gin.next hb).data)
 ·exact Zek (j:=6) (fun _=>rfl) (fun w hb=>Zj1 g.n g.ta g.Ctrl g.tc w c.gin.e40 c.gin.t300 (c.gin.next hb).ctrl)
 ·exact Zek (j:=7) (fun _=>rfl) (fun w hb=>Zj1 g.n g.ia g.CtrlI g.ic w c.gin.e40 c.gin.i300 (c.gin.next hb).ctrli)
 ·exact Zrh rfl (fun w hb=>Zj1 g.n none [] 0 w c.gin.e40 (by simp) (Zhn w)))
noncomputable def Yng:List (Nat×RV×RV):=[(10,.mp 1,(.cons (.mp 1) (.cons (.mp 1) .nil)))]
theorem Ysa (_c:Cx g xa X xc w0):Tells Tryz.prog (rho g xa X xc w0 MM) (122,0,chW Yng):=Zaj (by kernel_rfl) (by
 intro x hx
 unfold Yng at hx
 simp only[List.mem_cons,List.not_mem_nil,or_false] at hx
 subst hx
 exact Znr (op:=orM) (fun _ _=>rfl) (fun w b c2 M S hb h1 h2=>Yxj b c2 g.n M S w h1 h2))
noncomputable def Zyx:List (Nat×RV×RV):=[(11,.mp 1,(.cons (.mp 1) (.cons (.mp 1) .nil)))]
theorem Yii (_c:Cx g xa X xc w0):Tells Tryz.prog (rho g xa X xc w0 MM) (106,0,chW Zyx):=Zaj (by kernel_rfl) (by
 intro x hx
 unfold Zyx at hx
 simp only[List.mem_cons,List.not_mem_nil,or_false] at hx
 subst hx
 exact Znr (op:=Zky) (fun _ _=>rfl) (fun w b c2 M S hb h1 h2=>Yj8 b c2 g.n M S w h1 h2))
noncomputable def Zq6:List (Nat×RV×RV):=[(12,.mp 1,(.cons (.mp 1) (.cons (.mp 1) .nil)))]
theorem Ycw (_c:Cx g xa X xc w0):Tells Tryz.prog (rho g xa X xc w0 MM) (123,0,chW Zq6):=Zaj (by kernel_rfl) (by
 intro x hx
 unfold Zq6 at hx
 simp only[List.mem_cons,List.not_mem_nil,or_false] at hx
 subst hx
 exact Znr (op:=Zfe) (fun _ _=>rfl) (fun w b c2 M S hb h1 h2=>Yk3 b c2 g.n M S w h1 h2))
noncomputable def Zq2:List (Nat×RV×RV):=[(13,.mp 1,(.cons (.mp 1) (.cons (.mp 1) .nil)))]
theorem Ycs (c:Cx g xa X xc w0):Tells Tryz.prog (rho g xa X xc w0 MM) (80,0,chW Zq2):=Zaj (by kernel_rfl) (by
 intro x hx
 unfold Zq2 at hx
 simp only[List.mem_cons,List.not_mem_nil,or_false] at hx
 subst hx
 exact Znr (op:=Zax) (fun _ _=>rfl) (fun w b c2 M S hb h1 h2=>Ycq b c2 g.n M S w h1 h2 (c.tab.next hb)))
noncomputable def Zq7:List (Nat×RV×RV):=[(14,.mp 1,(.cons (.mp 1) .nil))]
theorem Ycx (c:Cx g xa X xc w0):Tells Tryz.prog (rho g xa X xc w0 MM) (182,0,chW Zq7):=Zaj (by kernel_rfl) (by
 intro x hx
 unfold Zq7 at hx
 simp only[List.mem_cons,List.not_mem_nil,or_false] at hx
 subst hx
 exact Zsu (op:=Zff) (fun _=>rfl) (fun w b M hb h1=>Ylw b g.n M w h1 c.gin.e40 (c.tab.next hb)))
noncomputable def Zu2:List (Nat×RV×RV):=[(15,.mp 1,(.cons (.mp 1) .nil))]
theorem Ykh (c:Cx g xa X xc w0):Tells Tryz.prog (rho g xa X xc w0 MM) (66,0,chW Zu2):=Zaj (by kernel_rfl) (by
 intro x hx
 unfold Zu2 at hx
 simp only[List.mem_cons,List.not_mem_nil,or_false] at hx
 subst hx
 exact Zsu (op:=Zbl) (fun _=>rfl) (fun w b M hb h1=>Ykw b g.n M w h1 (c.tab.next hb)))
noncomputable def Zqb:List (Nat×RV×RV):=[(16,.mp 1,(.cons (.mp 1) .nil))]
theorem Yes (c:Cx g xa X xc w0):Tells Tryz.prog (rho g xa X xc w0 MM) (174,0,chW Zqb):=Zaj (by kernel_rfl) (by
 intro x hx
 unfold Zqb at hx
 simp only[List.mem_cons,List.not_mem_nil,or_false] at hx
 subst hx
 exact Zsu (op:=Zco g.n) (fun _=>rfl) (fun w b M hb h1=>Ygb b g.n M w h1 c.gin.e40))
noncomputable def Ynf:List (Nat×RV×RV):=[(6,.mp 1,(.cons gR .nil))]
theorem Yr9 (c:Cx g xa X xc w0):Tells Tryz.prog (rho g xa X xc w0 MM) (81,0,chW Ynf):=Zaj (by kernel_rfl) (by
 intro x hx
 unfold Ynf at hx
 simp only[List.mem_cons,List.not_mem_nil,or_false] at hx
 subst hx
 exact Znq rfl (fun w hb=>Yur g w (c.gin.next hb).es c.gin.e40 c.gin.ecap))
noncomputable def Zjl:List (Nat×RV×RV):=[(40,.mp 1,(.cons gR (.cons (.i .i64 1) (.cons .ns .nil)))),(41,.mp 1,(.cons gR (.cons (.i .i64 2) (.cons .ns .nil)))),(42,.mp 1,(.cons gR (.cons (.i .i64 3) (.cons .ns .nil)))),(43,.mp 1,(.cons gR (.cons (.i .i64 2) (.cons (chI [2]) .nil)))),(44,.mp 1,(.cons gR (.cons (.i .i64 1) (.cons (chI [1]) .nil)))),(45,.mp 1,(.cons gR (.cons (.i .i64 3) (.cons (chI [2,3,4]) .nil)))),(46,.mp 1,(.cons gR (.cons (.i .i64 3) (.cons (chI [1,3,4]) .nil)))),(47,.mp 1,(.cons gR (.cons (.i .i64 3) (.cons (chI [4]) .nil)))),(48,.mp 1,(.cons gR (.cons (.i .i64 3) (.cons (chI [3]) .nil))))]
theorem Zri (c:Cx g xa X xc w0):Tells Tryz.prog (rho g xa X xc w0 MM) (65,0,chW Zjl):=Zaj (by kernel_rfl) (by
 intro x hx
 unfold Zjl at hx
 simp only[List.mem_cons,List.not_mem_nil,or_false] at hx
 rcases hx with rfl | rfl | rfl | rfl | rfl | rfl | rfl | rfl | rfl
 ·exact Zps (kd:=1) rfl (fun w hb=>Zdu g 1 none [] 0 w (c.gin.next hb) (Zkh w) (by simp))
 ·exact Zps (kd:=2) rfl (fun w hb=>Zdu g 2 none [] 0 w (c.gin.next hb) (Zkh w) (by simp))
 ·exact Zps (kd:=3) rfl (fun w hb=>Zdu g 3 none [] 0 w (c.gin.next hb) (Zkh w) (by simp))
 ·exact Zk9 (kd:=2) (x0:=2) (l:=[]) rfl (fun w a cc hb hn=>Zdu g 2 a [2] cc w (c.gin.next hb) hn (by simp)) (Zgr g X MM)
 ·exact Zk9 (kd:=1) (x0:=1) (l:=[]) rfl (fun w a cc hb hn=>Zdu g 1 a [1] cc w (c.gin.next hb) hn (by simp)) (Zgr g X MM)
 ·exact Zk9 (kd:=3) (x0:=2) (l:=[3,4]) rfl (fun w a cc hb hn=>Zdu g 3 a [2,3,4] cc w (c.gin.next hb) hn (by simp)) (Zgr g X MM)
 ·exact Zk9 (kd:=3) (x0:=1) (l:=[3,4]) rfl (fun w a cc hb hn=>Zdu g 3 a [1,3,4] cc w (c.gin.next hb) hn (by simp)) (Zgr g X MM)
 ·exact Zk9 (kd:=3) (x0:=4) (l:=[]) rfl (fun w a cc hb hn=>Zdu g 3 a [4] cc w (c.gin.next hb) hn (by simp)) (Zgr g X MM)
 ·exact Zk9 (kd:=3) (x0:=3) (l:=[]) rfl (fun w a cc hb hn=>Zdu g 3 a [3] cc w (c.gin.next hb) hn (by simp)) (Zgr g X MM))
noncomputable def Yne:List (Nat×RV×RV):=[(1,.mp 1,(.cons gR .nil))]
theorem Yr8 (c:Cx g xa X xc w0):Tells Tryz.prog (rho g xa X xc w0 MM) (179,0,chW Yne):=Zaj (by kernel_rfl) (by
 intro x hx
 unfold Yne at hx
 simp only[List.mem_cons,List.not_mem_nil,or_false] at hx
 subst hx
 exact Znq rfl (fun w hb=>Zqm g w (c.gin.next hb).rf c.gin.e40 c.gin.r60))
noncomputable def Yni:List (Nat×RV×RV):=[(2,.mp 1,(.cons gR .nil))]
theorem Ysb (c:Cx g xa X xc w0):Tells Tryz.prog (rho g xa X xc w0 MM) (180,0,chW Yni):=Zaj (by kernel_rfl) (by
 intro x hx
 unfold Yni at hx
 simp only[List.mem_cons,List.not_mem_nil,or_false] at hx
 subst hx
 exact Znq rfl (fun w hb=>Zqs g w (c.gin.next hb).co c.gin.e40 (Zlf c.ck).c4 c.gin.ccap (Zlf c.ck).l40))
noncomputable def Zmn:List (Nat×RV×RV):=[(20,.mp 1,(.cons gR (.cons (.mp 1) .nil)))]
theorem Zvs (c:Cx g xa X xc w0):Tells Tryz.prog (rho g xa X xc w0 MM) (62,0,chW Zmn):=Zaj (by kernel_rfl) (by
 intro x hx
 unfold Zmn at hx
 simp only[List.mem_cons,List.not_mem_nil,or_false] at hx
 subst hx
 exact Ycn (op:=Zbm g.E) (fun _=>rfl) (fun w b M hb h1=>Ygl g b M w (c.gin.next hb) h1 (c.tab.next hb)))
noncomputable def Zyu:List (Nat×RV×RV):=[(5,.mp 1,(.cons gR .nil))]
theorem Yih (c:Cx g xa X xc w0):Tells Tryz.prog (rho g xa X xc w0 MM) (91,0,chW Zyu):=Zaj (by kernel_rfl) (by
 intro x hx
 unfold Zyu at hx
 simp only[List.mem_cons,List.not_mem_nil,or_false] at hx
 subst hx
 exact Znq rfl (fun w hb=>Yrf g w (c.gin.next hb) (c.tab.next hb)))
noncomputable def Zq3:List (Nat×RV×RV):=[(35,.mp 2,(.cons nR (.cons (opS 8) .nil))),(30,.mp 2,(.cons nR (.cons (opS 4) .nil))),(31,.mp 2,(.cons nR (.cons (opS 5) .nil))),(32,.mp 2,(.cons nR (.cons (opS 6) .nil))),(33,.mp 2,(.cons nR (.cons (opS 7) .nil))),(34,.mp 2,(.cons nR (.cons .ns .nil)))]
theorem Yct (c:Cx g xa X xc w0):Tells Tryz.prog (rho g xa X xc w0 MM) (101,0,chW Zq3):=Zaj (by kernel_rfl) (by
 intro x hx
 unfold Zq3 at hx
 simp only[List.mem_cons,List.not_mem_nil,or_false] at hx
 rcases hx with rfl | rfl | rfl | rfl | rfl | rfl
 ·exact Zek (j:=8) (fun _=>rfl) (fun w hb=>Zfu g.n xa X xc w c.gin.e40 c.xl (c.xin.next hb))
 ·exact Zek (j:=4) (fun _=>rfl) (fun w hb=>Zfu g.n g.ma g.Rmw g.mc w c.gin.e40 (by have:=c.gin.m50;omega) (c.gin.next hb).rmw)
 ·exact Zek (j:=5) (fun _=>rfl) (fun w hb=>Zfu g.n g.da g.Data g.dc w c.gin.e40 c.gin.d300 (c.gin.next hb).data)
 ·exact Zek (j:=6) (fun _=>rfl) (fun w hb=>Zfu g.n g.ta g.Ctrl g.tc w c.gin.e40 c.gin.t300 (c.gin.next hb).ctrl)
 ·exact Zek (j:=7) (fun _=>rfl) (fun w hb=>Zfu g.n g.ia g.CtrlI g.ic w c.gin.e40 c.gin.i300 (c.gin.next hb).ctrli)
 ·exact Zrh rfl (fun w hb=>Yks g.n w c.gin.e40))
noncomputable def Zyr:List (Nat×RV×RV):=[(10,.mp 2,(.cons (.mp 2) (.cons (.mp 2) .nil)))]
theorem Yie (c:Cx g xa X xc w0):Tells Tryz.prog (rho g xa X xc w0 MM) (96,0,chW Zyr):=Zaj (by kernel_rfl) (by
 intro x hx
 unfold Zyr at hx
 simp only[List.mem_cons,List.not_mem_nil,or_false] at hx
 subst hx
 exact Znr (op:=orM) (fun _ _=>rfl) (fun w b c2 M S hb h1 h2=>Yin b c2 g.n M S w h1 h2 c.gin.e40))
noncomputable def Zq5:List (Nat×RV×RV):=[(11,.mp 2,(.cons (.mp 2) (.cons (.mp 2) .nil)))]
theorem Ycv (c:Cx g xa X xc w0):Tells Tryz.prog (rho g xa X xc w0 MM) (109,0,chW Zq5):=Zaj (by kernel_rfl) (by
 intro x hx
 unfold Zq5 at hx
 simp only[List.mem_cons,List.not_mem_nil,or_false] at hx
 subst hx
 exact Znr (op:=Zky) (fun _ _=>rfl) (fun w b c2 M S hb h1 h2=>Yc5 b c2 g.n M S w h1 h2 c.gin.e40))
noncomputable def Zmk:List (Nat×RV×RV):=[(12,.mp 2,(.cons (.mp 2) (.cons (.mp 2) .nil)))]
theorem Zvp (c:Cx g xa X xc w0):Tells Tryz.prog (rho g xa X xc w0 MM) (142,0,chW Zmk):=Zaj (by kernel_rfl) (by
 intro x hx
 unfold Zmk at hx
 simp only[List.mem_cons,List.not_mem_nil,or_false] at hx
 subst hx
 exact Znr (op:=Zfe) (fun _ _=>rfl) (fun w b c2 M S hb h1 h2=>Yfa b c2 g.n M S w h1 h2 c.gin.e40))
noncomputable def Zmh:List (Nat×RV×RV):=[(13,.mp 2,(.cons (.mp 2) (.cons (.mp 2) .nil)))]
theorem Zvm (c:Cx g xa X xc w0):Tells Tryz.prog (rho g xa X xc w0 MM) (94,0,chW Zmh):=Zaj (by kernel_rfl) (by
 intro x hx
 unfold Zmh at hx
 simp only[List.mem_cons,List.not_mem_nil,or_false] at hx
 subst hx
 exact Znr (op:=Zax) (fun _ _=>rfl) (fun w b c2 M S hb h1 h2=>Zvv b c2 g.n M S w h1 h2 c.gin.e40))
noncomputable def Zmm:List (Nat×RV×RV):=[(14,.mp 2,(.cons (.mp 2) .nil))]
theorem Zvr (c:Cx g xa X xc w0):Tells Tryz.prog (rho g xa X xc w0 MM) (163,0,chW Zmm):=Zaj (by kernel_rfl) (by
 intro x hx
 unfold Zmm at hx
 simp only[List.mem_cons,List.not_mem_nil,or_false] at hx
 subst hx
 exact Zsu (op:=Zff) (fun _=>rfl) (fun w b M hb h1=>Yfw b g.n M w h1 c.gin.e40))
noncomputable def Zqa:List (Nat×RV×RV):=[(15,.mp 2,(.cons (.mp 2) .nil))]
theorem Yeq (c:Cx g xa X xc w0):Tells Tryz.prog (rho g xa X xc w0 MM) (104,0,chW Zqa):=Zaj (by kernel_rfl) (by
 intro x hx
 unfold Zqa at hx
 simp only[List.mem_cons,List.not_mem_nil,or_false] at hx
 subst hx
 exact Zsu (op:=Zbl) (fun _=>rfl) (fun w b M hb h1=>Ye6 b g.n M w h1 c.gin.e40))
noncomputable def Zm8:List (Nat×RV×RV):=[(16,.mp 2,(.cons (.mp 2) .nil))]
theorem Zza (c:Cx g xa X xc w0):Tells Tryz.prog (rho g xa X xc w0 MM) (178,0,chW Zm8):=Zaj (by kernel_rfl) (by
 intro x hx
 unfold Zm8 at hx
 simp only[List.mem_cons,List.not_mem_nil,or_false] at hx
 subst hx
 exact Zsu (op:=Zco g.n) (fun _=>rfl) (fun w b M hb h1=>Zzp b g.n M w h1 c.gin.e40))
noncomputable def Yd8:List (Nat×RV×RV):=[(6,.mp 2,(.cons gR .nil))]
theorem Ypk (c:Cx g xa X xc w0):Tells Tryz.prog (rho g xa X xc w0 MM) (92,0,chW Yd8):=Zaj (by kernel_rfl) (by
 intro x hx
 unfold Yd8 at hx
 simp only[List.mem_cons,List.not_mem_nil,or_false] at hx
 subst hx
 exact Znq rfl (fun w hb=>Ypp g w (c.gin.next hb).es c.gin.e40 (Zym c.ck)))
noncomputable def Zml:List (Nat×RV×RV):=[(60,.mp 2,(.cons gR (.cons (.i .i64 2) (.cons (.i .i64 0) (.cons (.i .i64 2) .nil))))),(61,.mp 2,(.cons gR (.cons (.i .i64 2) (.cons (.i .i64 2) (.cons (.i .i64 2) .nil))))),(62,.mp 2,(.cons gR (.cons (.i .i64 1) (.cons (.i .i64 1) (.cons (.i .i64 1) .nil))))),(63,.mp 2,(.cons gR (.cons (.i .i64 3) (.cons (.i .i64 2) (.cons (.i .i64 4) .nil))))),(64,.mp 2,(.cons gR (.cons (.i .i64 3) (.cons (.i .i64 1) (.cons (.i .i64 1) .nil))))),(65,.mp 2,(.cons gR (.cons (.i .i64 3) (.cons (.i .i64 3) (.cons (.i .i64 4) .nil))))),(66,.mp 2,(.cons gR (.cons (.i .i64 3) (.cons (.i .i64 1) (.cons (.i .i64 4) .nil))))),(67,.mp 2,(.cons gR (.cons (.i .i64 1) (.cons (.i .i64 0) (.cons (.i .i64 1) .nil))))),(68,.mp 2,(.cons gR (.cons (.i .i64 3) (.cons (.i .i64 4) (.cons (.i .i64 4) .nil))))),(69,.mp 2,(.cons gR (.cons (.i .i64 3) (.cons (.i .i64 3) (.cons (.i .i64 3) .nil))))),(70,.mp 2,(.cons gR (.cons (.i .i64 1) (.cons (.i .i64 0) (.cons (.i .i64 4) .nil))))),(71,.mp 2,(.cons gR (.cons (.i .i64 2) (.cons (.i .i64 0) (.cons (.i .i64 4) .nil)))))]
theorem Zvq (c:Cx g xa X xc w0):Tells Tryz.prog (rho g xa X xc w0 MM) (93,0,chW Zml):=Zaj (by kernel_rfl) (by
 intro x hx
 unfold Zml at hx
 simp only[List.mem_cons,List.not_mem_nil,or_false] at hx
 rcases hx with rfl | rfl | rfl | rfl | rfl | rfl | rfl | rfl | rfl | rfl | rfl | rfl
 ·exact Zi9 (kd:=2) (lo:=0) (hi:=2) rfl (fun w hb=>Zdl g 2 0 2 w (c.gin.next hb).es c.gin.e40)
 ·exact Zi9 (kd:=2) (lo:=2) (hi:=2) rfl (fun w hb=>Zdl g 2 2 2 w (c.gin.next hb).es c.gin.e40)
 ·exact Zi9 (kd:=1) (lo:=1) (hi:=1) rfl (fun w hb=>Zdl g 1 1 1 w (c.gin.next hb).es c.gin.e40)
 ·exact Zi9 (kd:=3) (lo:=2) (hi:=4) rfl (fun w hb=>Zdl g 3 2 4 w (c.gin.next hb).es c.gin.e40)
 ·exact Zi9 (kd:=3) (lo:=1) (hi:=1) rfl (fun w hb=>Zdl g 3 1 1 w (c.gin.next hb).es c.gin.e40)
 ·exact Zi9 (kd:=3) (lo:=3) (hi:=4) rfl (fun w hb=>Zdl g 3 3 4 w (c.gin.next hb).es c.gin.e40)
 ·exact Zi9 (kd:=3) (lo:=1) (hi:=4) rfl (fun w hb=>Zdl g 3 1 4 w (c.gin.next hb).es c.gin.e40)
 ·exact Zi9 (kd:=1) (lo:=0) (hi:=1) rfl (fun w hb=>Zdl g 1 0 1 w (c.gin.next hb).es c.gin.e40)
 ·exact Zi9 (kd:=3) (lo:=4) (hi:=4) rfl (fun w hb=>Zdl g 3 4 4 w (c.gin.next hb).es c.gin.e40)
 ·exact Zi9 (kd:=3) (lo:=3) (hi:=3) rfl (fun w hb=>Zdl g 3 3 3 w (c.gin.next hb).es c.gin.e40)
 ·exact Zi9 (kd:=1) (lo:=0) (hi:=4) rfl (fun w hb=>Zdl g 1 0 4 w (c.gin.next hb).es c.gin.e40)
 ·exact Zi9 (kd:=2) (lo:=0) (hi:=4) rfl (fun w hb=>Zdl g 2 0 4 w (c.gin.next hb).es c.gin.e40))
noncomputable def Zyq:List (Nat×RV×RV):=[(1,.mp 2,(.cons gR .nil))]
theorem Yid (c:Cx g xa X xc w0):Tells Tryz.prog (rho g xa X xc w0 MM) (103,0,chW Zyq):=Zaj (by kernel_rfl) (by
 intro x hx
 unfold Zyq at hx
 simp only[List.mem_cons,List.not_mem_nil,or_false] at hx
 subst hx
 exact Znq rfl (fun w hb=>Ypo g w (c.gin.next hb).rf c.gin.e40 (Zum c.ck)))
noncomputable def Zys:List (Nat×RV×RV):=[(2,.mp 2,(.cons gR .nil))]
theorem Yif (c:Cx g xa X xc w0):Tells Tryz.prog (rho g xa X xc w0 MM) (108,0,chW Zys):=Zaj (by kernel_rfl) (by
 intro x hx
 unfold Zys at hx
 simp only[List.mem_cons,List.not_mem_nil,or_false] at hx
 subst hx
 exact Znq rfl (fun w hb=>Yip g w (c.gin.next hb).co c.gin.e40 (Zlf c.ck).c4 (Zum c.ck) (Zlf c.ck).l40))
noncomputable def Zq4:List (Nat×RV×RV):=[(5,.mp 2,(.cons gR .nil))]
theorem Ycu (c:Cx g xa X xc w0):Tells Tryz.prog (rho g xa X xc w0 MM) (98,0,chW Zq4):=Zaj (by kernel_rfl) (by
 intro x hx
 unfold Zq4 at hx
 simp only[List.mem_cons,List.not_mem_nil,or_false] at hx
 subst hx
 exact Znq rfl (fun w hb=>Ykt g w (c.gin.next hb).es c.gin.e40 (Zym c.ck)))
noncomputable def Zmi:List (Nat×RV×RV):=[(20,.mp 2,(.cons gR (.cons (.mp 2) (.cons (.b true) .nil)))),(21,.mp 2,(.cons gR (.cons (.mp 2) (.cons (.b false) .nil))))]
theorem Zvn (c:Cx g xa X xc w0):Tells Tryz.prog (rho g xa X xc w0 MM) (157,0,chW Zmi):=Zaj (by kernel_rfl) (by
 intro x hx
 unfold Zmi at hx
 simp only[List.mem_cons,List.not_mem_nil,or_false] at hx
 rcases hx with rfl | rfl
 ·exact Zvj (op:=Zbm g.E) true (fun _=>rfl) (fun w b M hb h1=>by rw[<- Yfy];exact Zpz g b M true w (c.gin.next hb).es c.gin.e40 h1)
 ·exact Zvj (op:=Zcn g.E) false (fun _=>rfl) (fun w b M hb h1=>by rw[<- Zrs];exact Zpz g b M false w (c.gin.next hb).es c.gin.e40 h1))
noncomputable def Zmj:List (Nat×RV×RV):=[(22,.mp 2,(.cons gR (.cons (.mp 2) .nil)))]
theorem Zvo (c:Cx g xa X xc w0):Tells Tryz.prog (rho g xa X xc w0 MM) (175,0,chW Zmj):=Zaj (by kernel_rfl) (by
 intro x hx
 unfold Zmj at hx
 simp only[List.mem_cons,List.not_mem_nil,or_false] at hx
 subst hx
 exact Ycn (op:=mnM g.E) (fun _=>rfl) (fun w b M hb h1=>Ye9 g b M w (c.gin.next hb).es c.gin.e40 h1))
open Go.Rn (Zkv dsc_cons dsc_nil den Za7)
theorem Zf3 (c:Cx g xa X xc w0) {f:Nat} (hs:∀ (b c n:Nat) (M:Nat->Nat->Bool) (w:World),Rl w b n M->Rr w c n M->n<=40->Tab w->Calls Tryz.prog f #[.pointer (some ⟨b,0,none⟩),.pointer (some ⟨c,0,none⟩)] w fun e w'=>e=.returned (.bool true)/\Below w.heap.size w w')
  {q1 q2:RV} (h:mx g X MM q1=mx g X MM q2):∀ (m:Mp) (w:World) (vs:List Value),(rho g xa X xc w0 MM).Old w->Zkv (rho g xa X xc w0 MM) m w (.cons (.tup (.cons (.mp 1) q1)) (.cons (.tup (.cons (.mp 2) q2)) .nil)) vs ->
   Calls Tryz.prog f vs.toArray w (fun e w'=>∃ u:Value,e=.returned u/\Go.Rn.Old w w'/\∀ m',den (rho g xa X xc w0 MM) m' (.b true) u):=by
 intro m w vs hw hd
 obtain⟨x,xs,rfl,d1,d2⟩:=dsc_cons hd
 obtain⟨x2,xs2,rfl,d3,d4⟩:=dsc_cons d2
 obtain rfl:=dsc_nil d4
 obtain⟨b,rfl,hr⟩:=told d1
 obtain⟨c2,rfl,hr2⟩:=told d3
 rw[<- h] at hr2
 refine(hs b c2 g.n _ w hr hr2 c.gin.e40 (c.tab.next (Zgk hw))).mono ?_
 rintro e w' ⟨rfl,hb⟩
 exact⟨_,rfl,Za7 hb,fun _=>rfl⟩
theorem Zhq (c:Cx g xa X xc w0) (k:Nat) {f:Nat} (hs:∀ (b c n:Nat) (M S:Nat->Nat->Bool) (w:World),Rk k w b n M->Rk k w c n S->n<=40->∀ (x:Bool),(x=true↔Wi M S)->Calls Tryz.prog f #[.pointer (some ⟨b,0,none⟩),.pointer (some ⟨c,0,none⟩)] w fun e w'=>e=.returned (.bool x)/\Below w.heap.size w w')
  {q1 q2:RV} {x:Bool} (h:x=true↔Wi (mx g X MM q1) (mx g X MM q2)):∀ (m:Mp) (w:World) (vs:List Value),(rho g xa X xc w0 MM).Old w->Zkv (rho g xa X xc w0 MM) m w (.cons (.tup (.cons (.mp k) q1)) (.cons (.tup (.cons (.mp k) q2)) .nil)) vs ->
   Calls Tryz.prog f vs.toArray w (fun e w'=>∃ u:Value,e=.returned u/\Go.Rn.Old w w'/\∀ m',den (rho g xa X xc w0 MM) m' (.b x) u):=by
 intro m w vs hw hd
 obtain⟨y,xs,rfl,d1,d2⟩:=dsc_cons hd
 obtain⟨x2,xs2,rfl,d3,d4⟩:=dsc_cons d2
 obtain rfl:=dsc_nil d4
 obtain⟨b,rfl,hr⟩:=told d1
 obtain⟨c2,rfl,hr2⟩:=told d3
 refine(hs b c2 g.n _ _ w hr hr2 c.gin.e40 x h).mono ?_
 rintro e w' ⟨rfl,hb⟩
 exact⟨_,rfl,Za7 hb,fun _=>rfl⟩
end ToldP
end
end Go.Proofs.YthcnhbclagegeaaGreatDoor
