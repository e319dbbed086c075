/-
  Calls that are told to the runner over relations of a graph: what they make, as a formula. Conditions: a graph that may be, in memory.
-/
import Derived.Test.YthcnhbclagegeaaGreatDoorMl
import Derived.Test.YthcnhbclagegeaaGreatDoorRnZg
import Derived.Deep.RegionWith
import Derived.Deep.DrawnRows
import Derived.Laws.EntriesVeiled
import Derived.Test.YthcnhbclagegeaaGreatDoorMi
import Derived.BigRegion
import Derived.Deep.RegionHeld3
namespace Go.Proofs.YthcnhbclagegeaaGreatDoor
open Go.RowKit RelA
namespace Told
open Go.Rn (Rho RV Mp Tells DscV DscL den denC denC_cons denC_nil sigL sigL_cons sigL_nil sig1 sig1_is sig1_kind dsc_cons dsc_nil below_old ptrV)
abbrev Mx:=Nat→Nat→Bool
def Rk:Nat→World→Nat→Nat→Mx→Prop
 | 1=>Rl
 | _=>Rr
def MakesK (k n:Nat) (M:Mx) (w:World) (e:Ending) (w':World):Prop:=∃ d,e=.returned (.pointer (some ⟨d,0,none⟩))∧Rk k w' d n M∧w.heap.size≤d∧Below w.heap.size w w'
theorem Rk.obj {k:Nat} {w:World} {d n:Nat} {M:Mx} (h:Rk k w d n M):∃ C el fr,w.heap[d]?=some (.cells C el fr):=by
 unfold Rk at h
 split at h
 ·obtain ⟨⟨R,h1,_⟩,_⟩:=h
  exact ⟨_,_,_,h1⟩
 ·exact ⟨_,_,_,h.at_⟩
theorem Rk.move {k:Nat} {w w':World} {d b n:Nat} {M:Mx} {o:Obj} (h:Rk k w d n M) (h1:w.heap[d]?=some o) (h2:w'.heap[b]?=some o):Rk k w' b n M:=by
 unfold Rk at h ⊢
 split at h
 ·obtain ⟨⟨R,h3,h4⟩,h5⟩:=h
  refine ⟨⟨R,?_,h4⟩,h5⟩
  unfold At at h3 ⊢
  rw [h2,← h1,h3]
 ·obtain ⟨h3,h5⟩:=h
  refine ⟨?_,h5⟩
  unfold RAt at h3 ⊢
  rw [h2,← h1,h3]
noncomputable def opM (g:Gr) (X:List (Int × Int)):Nat→List Mx→Mx
 | 1,_=>rfM g
 | 2,_=>coM g
 | 5,_=>locM g.E
 | 6,_=>poM g.E
 | 10,[a,b]=>orM a b
 | 11,[a,b]=>andM a b
 | 12,[a,b]=>lessM a b
 | 13,[a,b]=>seqM a b
 | 14,[a]=>backM a
 | 15,[a]=>plusM a
 | 16,[a]=>maybeM g.n a
 | 20,[a]=>innerM g.E a
 | 21,[a]=>outerM g.E a
 | 30,_=>ofM g.n g.Rmw
 | 31,_=>ofM g.n g.Data
 | 32,_=>ofM g.n g.Ctrl
 | 33,_=>ofM g.n g.CtrlI
 | 34,_=>noneM
 | 35,_=>ofM g.n X
 | 40,_=>evM g 1 []
 | 41,_=>evM g 2 []
 | 42,_=>evM g 3 []
 | 43,_=>evM g 2 [2]
 | 44,_=>evM g 1 [1]
 | 45,_=>evM g 3 [2,3,4]
 | 46,_=>evM g 3 [1,3,4]
 | 47,_=>evM g 3 [4]
 | 48,_=>evM g 3 [3]
 | 60,_=>kM g 2 0 2
 | 61,_=>kM g 2 2 2
 | 62,_=>kM g 1 1 1
 | 63,_=>kM g 3 2 4
 | 64,_=>kM g 3 1 1
 | 65,_=>kM g 3 3 4
 | 66,_=>kM g 3 1 4
 | 67,_=>kM g 1 0 1
 | 68,_=>kM g 3 4 4
 | 69,_=>kM g 3 3 3
 | 70,_=>kM g 1 0 4
 | 71,_=>kM g 2 0 4
 | 80,_=>diagM g.n fun i=>exB (Ev.at g.E i)
 | 81,_=>depsM g
 | _,_=>noneM
noncomputable def valT (g:Gr) (X:List (Int × Int)):RV→List Mx
 | .fn F c=>[opM g X F (valT g X c)]
 | .cons x r=>valT g X x ++ valT g X r
 | .tup t=>[(valT g X t).headD noneM]
 | _=>[]
noncomputable def mx (g:Gr) (X:List (Int × Int)) (t:RV):Mx:=(valT g X t).headD noneM
theorem mx_fn (g:Gr) (X:List (Int × Int)) (F:Nat) (c:RV):mx g X (.fn F c)=opM g X F (valT g X c):=rfl
theorem val_kind (g:Gr) (X:List (Int × Int)) (k:Nat) (t r:RV):valT g X (.cons (.tup (.cons (.mp k) t)) r)=mx g X t::valT g X r:=rfl
theorem val_nil (g:Gr) (X:List (Int × Int)):valT g X .nil=[]:=rfl
def thR (g:Gr) (X:List (Int × Int)) (t:RV) (o:Obj):Prop:=match t with
 | .cons (.mp k) t=>∀ (w:World) (b:Nat),w.heap[b]?=some o→Rk k w b g.n (mx g X t)
 | _=>False
def rho (g:Gr) (xa:Option Addr) (X:List (Int × Int)) (xc:Nat) (w0:World):Rho where
 i:=fun k=>match k with
  | 0=>g.locs | 1=>g.E.length | 2=>g.R.length | 3=>g.C.length | 4=>g.Rmw.length | 5=>g.Data.length | 6=>g.Ctrl.length | 7=>g.CtrlI.length | 8=>X.length | _=>0
 s:=fun k=>match k with
  | 1=>(g.ea,g.ec) | 2=>(g.ra,g.rc) | 3=>(g.ca,g.cc) | 4=>(g.ma,g.mc) | 5=>(g.da,g.dc) | 6=>(g.ta,g.tc) | 7=>(g.ia,g.ic) | 8=>(xa,xc) | _=>(none,0)
 th:=thR g X
 w0:=some w0
noncomputable def opS (k:Nat):RV:=.fn 33554432 (.cons (.i .i64 (.ofNat k)) (.cons (.y .i64 (.v k)) .nil))
noncomputable def gR:RV:=.agg (.cons (.y .i64 (.v 0)) (.cons (opS 1) (.cons (opS 2) (.cons (opS 3) (.cons (opS 4) (.cons (opS 5) (.cons (opS 6) (.cons (opS 7) .nil))))))))
noncomputable def nR:RV:=.y .i64 (.v 1)
def ysE:Go.Rn.Ys:=fun op a b=>match op,a,b with
 | .geq,.v (k + 1),.c (.ofNat 0)=>bif Nat.blt k 8 then some true else none
 | _,_,_=>none
variable {g:Gr} {xa:Option Addr} {X:List (Int × Int)} {xc:Nat} {w0:World}
theorem ysE_ok:Go.Rn.YsOk (rho g xa X xc w0) ysE:=by
 intro op a b r h
 unfold ysE at h
 split at h
 ·rename_i k
  left
  have hk:k < 8∧r=true:=by
   cases hb:Nat.blt k 8
   ·rw [hb] at h; cases h
   ·rw [hb] at h
    have h':some true=some r:=h
    cases h'
    exact ⟨by simpa using hb,rfl⟩
  obtain ⟨hk,rfl⟩:=hk
  show some (decide ((rho g xa X xc w0).i (k + 1) ≥ 0))=some true
  have:(rho g xa X xc w0).i (k + 1) ≥ 0:=by
   match k,hk with
   | 0,_=>exact Int.natCast_nonneg _
   | 1,_=>exact Int.natCast_nonneg _
   | 2,_=>exact Int.natCast_nonneg _
   | 3,_=>exact Int.natCast_nonneg _
   | 4,_=>exact Int.natCast_nonneg _
   | 5,_=>exact Int.natCast_nonneg _
   | 6,_=>exact Int.natCast_nonneg _
   | 7,_=>exact Int.natCast_nonneg _
  simp [this]
 ·cases h
theorem den_op {m:Mp} {k:Nat} {v:Value} (hd:den (rho g xa X xc w0) m (opS k) v):v=.slice ((rho g xa X xc w0).s k).1 ((rho g xa X xc w0).i k).toNat ((rho g xa X xc w0).s k).2:=by
 obtain ⟨cs,h1,rfl⟩:=hd
 obtain ⟨u1,us1,rfl,d1,d2⟩:=denC_cons.1 h1
 obtain ⟨u2,us2,rfl,d3,d4⟩:=denC_cons.1 d2
 have:=denC_nil.1 d4
 subst this
 have d1:u1=.int .i64 (Int.ofNat k):=d1
 have d3:u2=.int .i64 ((rho g xa X xc w0).i k):=d3
 subst d1 d3
 rw [Go.Rn.fnV_open (Nat.le_refl _)]
 rfl
theorem den_g {m:Mp} {v:Value} (hd:den (rho g xa X xc w0) m gR v):v=g.v:=by
 obtain ⟨cs,h1,_,rfl⟩:=hd
 obtain ⟨u0,_,rfl,d0,h1⟩:=denC_cons.1 h1
 obtain ⟨u1,_,rfl,d1,h1⟩:=denC_cons.1 h1
 obtain ⟨u2,_,rfl,d2,h1⟩:=denC_cons.1 h1
 obtain ⟨u3,_,rfl,d3,h1⟩:=denC_cons.1 h1
 obtain ⟨u4,_,rfl,d4,h1⟩:=denC_cons.1 h1
 obtain ⟨u5,_,rfl,d5,h1⟩:=denC_cons.1 h1
 obtain ⟨u6,_,rfl,d6,h1⟩:=denC_cons.1 h1
 obtain ⟨u7,_,rfl,d7,h1⟩:=denC_cons.1 h1
 have:=denC_nil.1 h1
 subst this
 have d0:u0=.int .i64 g.locs:=d0
 rw [d0,den_op d1,den_op d2,den_op d3,den_op d4,den_op d5,den_op d6,den_op d7]
 rfl
theorem op_den (m:Mp) (k:Nat):den (rho g xa X xc w0) m (opS k) (.slice ((rho g xa X xc w0).s k).1 ((rho g xa X xc w0).i k).toNat ((rho g xa X xc w0).s k).2):=
 ⟨[.int .i64 (Int.ofNat k),.int .i64 ((rho g xa X xc w0).i k)],denC_cons.2 ⟨_,_,rfl,rfl,denC_cons.2 ⟨_,_,rfl,rfl,denC_nil.2 rfl⟩⟩,by rw [Go.Rn.fnV_open (Nat.le_refl _)]; rfl⟩
theorem g_den (m:Mp):den (rho g xa X xc w0) m gR g.v:=by
 refine ⟨[_,_,_,_,_,_,_,_],denC_cons.2 ⟨_,_,rfl,rfl,denC_cons.2 ⟨_,_,rfl,op_den m 1,denC_cons.2 ⟨_,_,rfl,op_den m 2,denC_cons.2 ⟨_,_,rfl,op_den m 3,denC_cons.2 ⟨_,_,rfl,op_den m 4,denC_cons.2 ⟨_,_,rfl,op_den m 5,denC_cons.2 ⟨_,_,rfl,op_den m 6,denC_cons.2 ⟨_,_,rfl,op_den m 7,denC_nil.2 rfl⟩⟩⟩⟩⟩⟩⟩⟩,?_,rfl⟩
 intro x hx
 simp only [List.mem_cons,List.not_mem_nil,or_false] at hx
 rcases hx with rfl | rfl | rfl | rfl | rfl | rfl | rfl | rfl <;> rfl
theorem old_w {w:World} (h:(rho g xa X xc w0).Old w):Below w0.heap.size w0 w:=h
theorem made {k n F:Nat} {ds:RV} {M:Mx} {w w':World} {e:Ending} (hn:n=g.n) (hM:opM g X F (valT g X ds)=M) (h:MakesK k n M w e w'):∃ (B:Nat) (C:Array Value) (el:TypeId) (fr:Nat × Nat),e=.returned (ptrV B)∧w.heap.size≤B∧w'.heap[B]?=some (.cells C el fr) ∧
  (rho g xa X xc w0).th (.cons (.mp k) (.fn F ds)) (.cells C el fr)∧Go.Rn.Old w w':=by
 obtain ⟨d,rfl,hat,hnw,hb⟩:=h
 obtain ⟨C,el,fr,hC⟩:=hat.obj
 refine ⟨d,C,el,fr,rfl,hnw,hC,fun W b hW=>?_,below_old hb⟩
 rw [mx_fn,hM,← hn]
 exact hat.move hC hW
theorem told {m:Mp} {k:Nat} {t:RV} {w:World} {v:Value} (h:DscV (rho g xa X xc w0) m w (.tup (.cons (.mp k) t)) v):∃ b,v=.pointer (some ⟨b,0,none⟩)∧Rk k w b g.n (mx g X t):=by
 obtain ⟨B,C,el,fr,rfl,h1,h2⟩:=h
 exact ⟨B,rfl,h2 w B h1⟩
theorem gR_not (k:Nat):gR ≠ .mp k:=by intro h; cases h
theorem way_g {f F k:Nat} {M:Mx} (hF:opM g X F []=M) (hc:∀ w,Below w0.heap.size w0 w→Calls Tryz.prog f #[g.v] w (MakesK k g.n M w)):Go.Rn.Way Tryz.prog (rho g xa X xc w0) f F (.mp k) (.cons gR .nil):=by
 intro ds hs m w vs hw hd
 obtain ⟨y,t,rfl,h1,h2⟩:=sigL_cons hs
 obtain rfl:=sigL_nil h2
 obtain rfl:=sig1_is gR_not h1
 obtain ⟨x,xs,rfl,d1,d2⟩:=dsc_cons hd
 obtain rfl:=dsc_nil d2
 obtain rfl:=den_g (m:=m) d1
 exact (hc w (old_w hw)).mono fun e w' h=>made rfl hF h
theorem way_u {f F k k':Nat} {op:Mx→Mx} (hF:∀ a,opM g X F [a]=op a) (hc:∀ w b M,Below w0.heap.size w0 w→Rk k w b g.n M→Calls Tryz.prog f #[.pointer (some ⟨b,0,none⟩)] w (MakesK k' g.n (op M) w)):Go.Rn.Way Tryz.prog (rho g xa X xc w0) f F (.mp k') (.cons (.mp k) .nil):=by
 intro ds hs m w vs hw hd
 obtain ⟨y,t,rfl,h1,h2⟩:=sigL_cons hs
 obtain rfl:=sigL_nil h2
 obtain ⟨s,rfl⟩:=sig1_kind h1
 obtain ⟨x,xs,rfl,d1,d2⟩:=dsc_cons hd
 obtain rfl:=dsc_nil d2
 obtain ⟨b,rfl,hr⟩:=told d1
 exact (hc w b _ (old_w hw) hr).mono fun e w' h=>made rfl (by rw [val_kind,val_nil,hF]) h
theorem way_b {f F k:Nat} {op:Mx→Mx→Mx} (hF:∀ a b,opM g X F [a,b]=op a b) (hc:∀ w b c M S,Below w0.heap.size w0 w→Rk k w b g.n M→Rk k w c g.n S→Calls Tryz.prog f #[.pointer (some ⟨b,0,none⟩),.pointer (some ⟨c,0,none⟩)] w (MakesK k g.n (op M S) w)) :
  Go.Rn.Way Tryz.prog (rho g xa X xc w0) f F (.mp k) (.cons (.mp k) (.cons (.mp k) .nil)):=by
 intro ds hs m w vs hw hd
 obtain ⟨y,t,rfl,h1,h2⟩:=sigL_cons hs
 obtain ⟨y2,t2,rfl,h3,h4⟩:=sigL_cons h2
 obtain rfl:=sigL_nil h4
 obtain ⟨s,rfl⟩:=sig1_kind h1
 obtain ⟨s2,rfl⟩:=sig1_kind h3
 obtain ⟨x,xs,rfl,d1,d2⟩:=dsc_cons hd
 obtain ⟨x2,xs2,rfl,d3,d4⟩:=dsc_cons d2
 obtain rfl:=dsc_nil d4
 obtain ⟨b,rfl,hr⟩:=told d1
 obtain ⟨c,rfl,hr2⟩:=told d3
 exact (hc w b c _ _ (old_w hw) hr hr2).mono fun e w' h=>made rfl (by rw [val_kind,val_kind,val_nil,hF]) h
theorem way_gr {f F k:Nat} {op:Mx→Mx} (hF:∀ a,opM g X F [a]=op a) (hc:∀ w b M,Below w0.heap.size w0 w→Rk k w b g.n M→Calls Tryz.prog f #[g.v,.pointer (some ⟨b,0,none⟩)] w (MakesK k g.n (op M) w)):Go.Rn.Way Tryz.prog (rho g xa X xc w0) f F (.mp k) (.cons gR (.cons (.mp k) .nil)):=by
 intro ds hs m w vs hw hd
 obtain ⟨y,t,rfl,h1,h2⟩:=sigL_cons hs
 obtain ⟨y2,t2,rfl,h3,h4⟩:=sigL_cons h2
 obtain rfl:=sigL_nil h4
 obtain rfl:=sig1_is gR_not h1
 obtain ⟨s2,rfl⟩:=sig1_kind h3
 obtain ⟨x,xs,rfl,d1,d2⟩:=dsc_cons hd
 obtain ⟨x2,xs2,rfl,d3,d4⟩:=dsc_cons d2
 obtain rfl:=dsc_nil d4
 obtain rfl:=den_g (m:=m) d1
 obtain ⟨c,rfl,hr2⟩:=told d3
 exact (hc w c _ (old_w hw) hr2).mono fun e w' h=>made rfl (by show opM g X F (valT g X (.cons (.tup (.cons (.mp k) s2)) .nil))=_; rw [val_kind,val_nil,hF]) h
theorem way_grb {f F k:Nat} {op:Mx→Mx} (one:Bool) (hF:∀ a,opM g X F [a]=op a) (hc:∀ w b M,Below w0.heap.size w0 w→Rk k w b g.n M→Calls Tryz.prog f #[g.v,.pointer (some ⟨b,0,none⟩),.bool one] w (MakesK k g.n (op M) w)) :
  Go.Rn.Way Tryz.prog (rho g xa X xc w0) f F (.mp k) (.cons gR (.cons (.mp k) (.cons (.b one) .nil))):=by
 intro ds hs m w vs hw hd
 obtain ⟨y,t,rfl,h1,h2⟩:=sigL_cons hs
 obtain ⟨y2,t2,rfl,h3,h4⟩:=sigL_cons h2
 obtain ⟨y3,t3,rfl,h5,h6⟩:=sigL_cons h4
 obtain rfl:=sigL_nil h6
 obtain rfl:=sig1_is gR_not h1
 obtain ⟨s2,rfl⟩:=sig1_kind h3
 obtain rfl:=sig1_is (by intro k h; cases h) h5
 obtain ⟨x,xs,rfl,d1,d2⟩:=dsc_cons hd
 obtain ⟨x2,xs2,rfl,d3,d4⟩:=dsc_cons d2
 obtain ⟨x3,xs3,rfl,d5,d6⟩:=dsc_cons d4
 obtain rfl:=dsc_nil d6
 obtain rfl:=den_g (m:=m) d1
 obtain ⟨c,rfl,hr2⟩:=told d3
 have d5:x3=.bool one:=d5
 subst d5
 exact (hc w c _ (old_w hw) hr2).mono fun e w' h=>made rfl (by show opM g X F (valT g X (.cons (.tup (.cons (.mp k) s2)) (.cons (.b one) .nil)))=_; rw [val_kind]; show opM g X F [_]=_; rw [hF]) h
theorem way_cl {f F fn:Nat} {M:Mx} (hfn:fn < 16777216) (hF:∀ l,opM g X F l=M)
  (hc:∀ w,Below w0.heap.size w0 w→Calls Tryz.prog f #[g.v,.func (.func fn) #[] #[]] w (MakesK 1 g.n M w)):Go.Rn.Way Tryz.prog (rho g xa X xc w0) f F (.mp 1) (.cons gR (.cons (.fn fn .nil) .nil)):=by
 intro ds hs m w vs hw hd
 obtain ⟨y,t,rfl,h1,h2⟩:=sigL_cons hs
 obtain ⟨y2,t2,rfl,h3,h4⟩:=sigL_cons h2
 obtain rfl:=sigL_nil h4
 obtain rfl:=sig1_is gR_not h1
 obtain rfl:=sig1_is (by intro k h; cases h) h3
 obtain ⟨x,xs,rfl,d1,d2⟩:=dsc_cons hd
 obtain ⟨x2,xs2,rfl,d3,d4⟩:=dsc_cons d2
 obtain rfl:=dsc_nil d4
 obtain rfl:=den_g (m:=m) d1
 obtain ⟨cs,h5,h6⟩:=(show ∃ cs:List Value,denC (rho g xa X xc w0) m .nil cs∧x2=Go.Rn.fnV (rho g xa X xc w0) fn cs from d3)
 obtain rfl:=denC_nil.1 h5
 rw [Go.Rn.fnV_lt hfn] at h6
 subst h6
 exact (hc w (old_w hw)).mono fun e w' h=>made rfl (hF _) h
theorem way_new {f F k j:Nat} {M:Mx} (hF:∀ l,opM g X F l=M)
  (hc:∀ w,Below w0.heap.size w0 w→Calls Tryz.prog f #[.int .i64 g.n,.slice ((rho g xa X xc w0).s j).1 ((rho g xa X xc w0).i j).toNat ((rho g xa X xc w0).s j).2] w (MakesK k g.n M w)):Go.Rn.Way Tryz.prog (rho g xa X xc w0) f F (.mp k) (.cons nR (.cons (opS j) .nil)):=by
 intro ds hs m w vs hw hd
 obtain ⟨y,t,rfl,h1,h2⟩:=sigL_cons hs
 obtain ⟨y2,t2,rfl,h3,h4⟩:=sigL_cons h2
 obtain rfl:=sigL_nil h4
 obtain rfl:=sig1_is (by intro k h; cases h) h1
 obtain rfl:=sig1_is (by intro k h; cases h) h3
 obtain ⟨x,xs,rfl,d1,d2⟩:=dsc_cons hd
 obtain ⟨x2,xs2,rfl,d3,d4⟩:=dsc_cons d2
 obtain rfl:=dsc_nil d4
 have d1:x=.int .i64 g.n:=d1
 subst d1
 obtain rfl:=den_op (m:=m) (k:=j) d3
 exact (hc w (old_w hw)).mono fun e w' h=>made rfl (hF _) h
theorem way_new0 {f F k:Nat} {M:Mx} (hF:opM g X F []=M)
  (hc:∀ w,Below w0.heap.size w0 w→Calls Tryz.prog f #[.int .i64 g.n,.slice none 0 0] w (MakesK k g.n M w)):Go.Rn.Way Tryz.prog (rho g xa X xc w0) f F (.mp k) (.cons nR (.cons .ns .nil)):=by
 intro ds hs m w vs hw hd
 obtain ⟨y,t,rfl,h1,h2⟩:=sigL_cons hs
 obtain ⟨y2,t2,rfl,h3,h4⟩:=sigL_cons h2
 obtain rfl:=sigL_nil h4
 obtain rfl:=sig1_is (by intro k h; cases h) h1
 obtain rfl:=sig1_is (by intro k h; cases h) h3
 obtain ⟨x,xs,rfl,d1,d2⟩:=dsc_cons hd
 obtain ⟨x2,xs2,rfl,d3,d4⟩:=dsc_cons d2
 obtain rfl:=dsc_nil d4
 have d1:x=.int .i64 g.n:=d1
 have d3:x2=.slice none 0 0:=d3
 subst d1 d3
 exact (hc w (old_w hw)).mono fun e w' h=>made rfl hF h
theorem way_ev0 {f F:Nat} {kd:Int} {M:Mx} (hF:opM g X F []=M)
  (hc:∀ w,Below w0.heap.size w0 w→Calls Tryz.prog f #[g.v,.int .i64 kd,.slice none 0 0] w (MakesK 1 g.n M w)):Go.Rn.Way Tryz.prog (rho g xa X xc w0) f F (.mp 1) (.cons gR (.cons (.i .i64 kd) (.cons .ns .nil))):=by
 intro ds hs m w vs hw hd
 obtain ⟨y,t,rfl,h1,h2⟩:=sigL_cons hs
 obtain ⟨y2,t2,rfl,h3,h4⟩:=sigL_cons h2
 obtain ⟨y3,t3,rfl,h5,h6⟩:=sigL_cons h4
 obtain rfl:=sigL_nil h6
 obtain rfl:=sig1_is gR_not h1
 obtain rfl:=sig1_is (by intro k h; cases h) h3
 obtain rfl:=sig1_is (by intro k h; cases h) h5
 obtain ⟨x,xs,rfl,d1,d2⟩:=dsc_cons hd
 obtain ⟨x2,xs2,rfl,d3,d4⟩:=dsc_cons d2
 obtain ⟨x3,xs3,rfl,d5,d6⟩:=dsc_cons d4
 obtain rfl:=dsc_nil d6
 obtain rfl:=den_g (m:=m) d1
 have d3:x2=.int .i64 kd:=d3
 have d5:x3=.slice none 0 0:=d5
 subst d3 d5
 exact (hc w (old_w hw)).mono fun e w' h=>made rfl hF h
theorem way_k {f F:Nat} {kd lo hi:Int} {M:Mx} (hF:opM g X F []=M)
  (hc:∀ w,Below w0.heap.size w0 w→Calls Tryz.prog f #[g.v,.int .i64 kd,.int .i64 lo,.int .i64 hi] w (MakesK 2 g.n M w)):Go.Rn.Way Tryz.prog (rho g xa X xc w0) f F (.mp 2) (.cons gR (.cons (.i .i64 kd) (.cons (.i .i64 lo) (.cons (.i .i64 hi) .nil)))):=by
 intro ds hs m w vs hw hd
 obtain ⟨y,t,rfl,h1,h2⟩:=sigL_cons hs
 obtain ⟨y2,t2,rfl,h3,h4⟩:=sigL_cons h2
 obtain ⟨y3,t3,rfl,h5,h6⟩:=sigL_cons h4
 obtain ⟨y4,t4,rfl,h7,h8⟩:=sigL_cons h6
 obtain rfl:=sigL_nil h8
 obtain rfl:=sig1_is gR_not h1
 obtain rfl:=sig1_is (by intro k h; cases h) h3
 obtain rfl:=sig1_is (by intro k h; cases h) h5
 obtain rfl:=sig1_is (by intro k h; cases h) h7
 obtain ⟨x,xs,rfl,d1,d2⟩:=dsc_cons hd
 obtain ⟨x2,xs2,rfl,d3,d4⟩:=dsc_cons d2
 obtain ⟨x3,xs3,rfl,d5,d6⟩:=dsc_cons d4
 obtain ⟨x4,xs4,rfl,d7,d8⟩:=dsc_cons d6
 obtain rfl:=dsc_nil d8
 obtain rfl:=den_g (m:=m) d1
 have d3:x2=.int .i64 kd:=d3
 have d5:x3=.int .i64 lo:=d5
 have d7:x4=.int .i64 hi:=d7
 subst d3 d5 d7
 exact (hc w (old_w hw)).mono fun e w' h=>made rfl hF h
noncomputable def chI:List Int→RV
 | []=>.nil
 | x::l=>.cons (.i .i64 x) (chI l)
theorem chI_den {ρ:Rho} {m:Mp}:∀ {l:List Int} {xs:List Value},denC ρ m (chI l) xs→xs=l.map (Value.int .i64)
 | [],xs,h=>denC_nil.1 h
 | x::l,xs,h=>by
  obtain ⟨u,us,rfl,h1,h2⟩:=denC_cons.1 h
  have h1:u=.int .i64 x:=h1
  rw [h1,chI_den h2]
  rfl
theorem way_ev {f F:Nat} {kd x0:Int} {l:List Int} {M:Mx} (hF:opM g X F []=M)
  (hc:∀ w a c,Below w0.heap.size w0 w→NsIn w a (x0::l)→Calls Tryz.prog f #[g.v,.int .i64 kd,.slice a (x0::l).length c] w (MakesK 1 g.n M w)) (hv:∀ l,valT g X (chI l)=[]):Go.Rn.Way Tryz.prog (rho g xa X xc w0) f F (.mp 1) (.cons gR (.cons (.i .i64 kd) (.cons (chI (x0::l)) .nil))):=by
 intro ds hs m w vs hw hd
 obtain ⟨y,t,rfl,h1,h2⟩:=sigL_cons hs
 obtain ⟨y2,t2,rfl,h3,h4⟩:=sigL_cons h2
 obtain ⟨y3,t3,rfl,h5,h6⟩:=sigL_cons h4
 obtain rfl:=sigL_nil h6
 obtain rfl:=sig1_is gR_not h1
 obtain rfl:=sig1_is (by intro k h; cases h) h3
 obtain rfl:=sig1_is (by intro k h; cases h) h5
 obtain ⟨x,xs,rfl,d1,d2⟩:=dsc_cons hd
 obtain ⟨x2,xs2,rfl,d3,d4⟩:=dsc_cons d2
 obtain ⟨x3,xs3,rfl,d5,d6⟩:=dsc_cons d4
 obtain rfl:=dsc_nil d6
 obtain rfl:=den_g (m:=m) d1
 have d3:x2=.int .i64 kd:=d3
 subst d3
 obtain ⟨B,O,c,us,rfl,_,h7,h8⟩:=(show ∃ (B O c:Nat) (xs:List Value),x3=.slice (some ⟨B,O,none⟩) xs.length c∧xs.length≤c∧denC (rho g xa X xc w0) m (chI (x0::l)) xs∧∀ (j:Nat) (x:Value),xs[j]?=some x→w.cell? ⟨B,O + j,none⟩=some x from d5)
 obtain rfl:=chI_den h7
 have hin:NsIn w (some ⟨B,O,none⟩) (x0::l):=by
  refine .inr ⟨B,O,rfl,?_,fun q hq=>?_⟩
  ·have h9:=h8 0 (.int .i64 x0) rfl
   exact World.block_lt_of_cell? w _ h9
  ·refine h8 q _ ?_
   rw [List.getElem?_map,List.getD_eq_getElem?_getD]
   rw [List.getElem?_eq_getElem hq]
   rfl
 have hh:=hc w _ c (old_w hw) hin
 rw [show (x0::l).length=((x0::l).map (Value.int .i64)).length by simp] at hh
 refine hh.mono fun e w' h=>made rfl ?_ h
 show opM g X F ([] ++ (valT g X (chI (x0::l)) ++ []))=M
 rw [hv]
 exact hF
theorem val_chI (g:Gr) (X:List (Int × Int)):∀ l,valT g X (chI l)=[]
 | []=>rfl
 | x::l=>by
  show [] ++ valT g X (chI l)=[]
  rw [val_chI g X l]
  rfl
end Told
end Go.Proofs.YthcnhbclagegeaaGreatDoor
namespace Go.Proofs.YthcnhbclagegeaaGreatDoor
open Go.RowKit RelA
namespace Told
open Go.Rn (Rho RV Mp Tells chW tells_made)
structure Cx (g:Gr) (xa:Option Addr) (X:List (Int × Int)) (xc:Nat) (w0:World):Prop where
 gin:GIn w0 g
 tab:Tab w0
 ck:CheckOk g
 xin:PIn w0 xa X xc
 xl:X.length≤300
variable {g:Gr} {xa:Option Addr} {X:List (Int × Int)} {xc:Nat} {w0:World}
noncomputable def l_new:List (Nat × RV × RV):=[(35,.mp 1,(.cons nR (.cons (opS 8) .nil))),(30,.mp 1,(.cons nR (.cons (opS 4) .nil))),(31,.mp 1,(.cons nR (.cons (opS 5) .nil))),(32,.mp 1,(.cons nR (.cons (opS 6) .nil))),(33,.mp 1,(.cons nR (.cons (opS 7) .nil))),(34,.mp 1,(.cons nR (.cons .ns .nil)))]
set_option maxRecDepth 20000 in
theorem t_new (c:Cx g xa X xc w0):Tells Tryz.prog (rho g xa X xc w0) (152,0,chW l_new):=tells_made (by kernel_rfl) (by
 intro x hx
 unfold l_new at hx
 simp only [List.mem_cons,List.not_mem_nil,or_false] at hx
 rcases hx with rfl | rfl | rfl | rfl | rfl | rfl
 ·exact way_new (j:=8) (fun _=>rfl) (fun w hb=>new_in g.n xa X xc w c.gin.e40 c.xl (c.xin.next hb))
 ·exact way_new (j:=4) (fun _=>rfl) (fun w hb=>new_in g.n g.ma g.Rmw g.mc w c.gin.e40 (by have:=c.gin.m50; omega) (c.gin.next hb).rmw)
 ·exact way_new (j:=5) (fun _=>rfl) (fun w hb=>new_in g.n g.da g.Data g.dc w c.gin.e40 c.gin.d300 (c.gin.next hb).data)
 ·exact way_new (j:=6) (fun _=>rfl) (fun w hb=>new_in g.n g.ta g.Ctrl g.tc w c.gin.e40 c.gin.t300 (c.gin.next hb).ctrl)
 ·exact way_new (j:=7) (fun _=>rfl) (fun w hb=>new_in g.n g.ia g.CtrlI g.ic w c.gin.e40 c.gin.i300 (c.gin.next hb).ctrli)
 ·exact way_new0 rfl (fun w hb=>new_in g.n none [] 0 w c.gin.e40 (by simp) (pin_none w)))
noncomputable def l_or:List (Nat × RV × RV):=[(10,.mp 1,(.cons (.mp 1) (.cons (.mp 1) .nil)))]
set_option maxRecDepth 20000 in
theorem t_or (_c:Cx g xa X xc w0):Tells Tryz.prog (rho g xa X xc w0) (122,0,chW l_or):=tells_made (by kernel_rfl) (by
 intro x hx
 unfold l_or at hx
 simp only [List.mem_cons,List.not_mem_nil,or_false] at hx
 subst hx
 exact way_b (op:=orM) (fun _ _=>rfl) (fun w b c2 M S hb h1 h2=>or_l b c2 g.n M S w h1 h2))
noncomputable def l_and:List (Nat × RV × RV):=[(11,.mp 1,(.cons (.mp 1) (.cons (.mp 1) .nil)))]
set_option maxRecDepth 20000 in
theorem t_and (_c:Cx g xa X xc w0):Tells Tryz.prog (rho g xa X xc w0) (106,0,chW l_and):=tells_made (by kernel_rfl) (by
 intro x hx
 unfold l_and at hx
 simp only [List.mem_cons,List.not_mem_nil,or_false] at hx
 subst hx
 exact way_b (op:=andM) (fun _ _=>rfl) (fun w b c2 M S hb h1 h2=>and_l b c2 g.n M S w h1 h2))
noncomputable def l_less:List (Nat × RV × RV):=[(12,.mp 1,(.cons (.mp 1) (.cons (.mp 1) .nil)))]
set_option maxRecDepth 20000 in
theorem t_less (_c:Cx g xa X xc w0):Tells Tryz.prog (rho g xa X xc w0) (123,0,chW l_less):=tells_made (by kernel_rfl) (by
 intro x hx
 unfold l_less at hx
 simp only [List.mem_cons,List.not_mem_nil,or_false] at hx
 subst hx
 exact way_b (op:=lessM) (fun _ _=>rfl) (fun w b c2 M S hb h1 h2=>less_l b c2 g.n M S w h1 h2))
noncomputable def l_then:List (Nat × RV × RV):=[(13,.mp 1,(.cons (.mp 1) (.cons (.mp 1) .nil)))]
set_option maxRecDepth 20000 in
theorem t_then (c:Cx g xa X xc w0):Tells Tryz.prog (rho g xa X xc w0) (80,0,chW l_then):=tells_made (by kernel_rfl) (by
 intro x hx
 unfold l_then at hx
 simp only [List.mem_cons,List.not_mem_nil,or_false] at hx
 subst hx
 exact way_b (op:=seqM) (fun _ _=>rfl) (fun w b c2 M S hb h1 h2=>then_l b c2 g.n M S w h1 h2 (c.tab.next hb)))
noncomputable def l_back:List (Nat × RV × RV):=[(14,.mp 1,(.cons (.mp 1) .nil))]
set_option maxRecDepth 20000 in
theorem t_back (c:Cx g xa X xc w0):Tells Tryz.prog (rho g xa X xc w0) (182,0,chW l_back):=tells_made (by kernel_rfl) (by
 intro x hx
 unfold l_back at hx
 simp only [List.mem_cons,List.not_mem_nil,or_false] at hx
 subst hx
 exact way_u (op:=backM) (fun _=>rfl) (fun w b M hb h1=>back_l b g.n M w h1 c.gin.e40 (c.tab.next hb)))
noncomputable def l_plus:List (Nat × RV × RV):=[(15,.mp 1,(.cons (.mp 1) .nil))]
set_option maxRecDepth 20000 in
theorem t_plus (c:Cx g xa X xc w0):Tells Tryz.prog (rho g xa X xc w0) (66,0,chW l_plus):=tells_made (by kernel_rfl) (by
 intro x hx
 unfold l_plus at hx
 simp only [List.mem_cons,List.not_mem_nil,or_false] at hx
 subst hx
 exact way_u (op:=plusM) (fun _=>rfl) (fun w b M hb h1=>plus_l b g.n M w h1 (c.tab.next hb)))
noncomputable def l_maybe:List (Nat × RV × RV):=[(16,.mp 1,(.cons (.mp 1) .nil))]
set_option maxRecDepth 20000 in
theorem t_maybe (c:Cx g xa X xc w0):Tells Tryz.prog (rho g xa X xc w0) (174,0,chW l_maybe):=tells_made (by kernel_rfl) (by
 intro x hx
 unfold l_maybe at hx
 simp only [List.mem_cons,List.not_mem_nil,or_false] at hx
 subst hx
 exact way_u (op:=maybeM g.n) (fun _=>rfl) (fun w b M hb h1=>maybe_l b g.n M w h1 c.gin.e40))
noncomputable def l_po:List (Nat × RV × RV):=[(6,.mp 1,(.cons gR .nil))]
set_option maxRecDepth 20000 in
theorem t_po (c:Cx g xa X xc w0):Tells Tryz.prog (rho g xa X xc w0) (81,0,chW l_po):=tells_made (by kernel_rfl) (by
 intro x hx
 unfold l_po at hx
 simp only [List.mem_cons,List.not_mem_nil,or_false] at hx
 subst hx
 exact way_g rfl (fun w hb=>po_l g w (c.gin.next hb).es c.gin.e40 c.gin.ecap))
noncomputable def l_events:List (Nat × RV × RV):=[(40,.mp 1,(.cons gR (.cons (.i .i64 1) (.cons .ns .nil)))),(41,.mp 1,(.cons gR (.cons (.i .i64 2) (.cons .ns .nil)))),(42,.mp 1,(.cons gR (.cons (.i .i64 3) (.cons .ns .nil)))),(43,.mp 1,(.cons gR (.cons (.i .i64 2) (.cons (chI [2]) .nil)))),(44,.mp 1,(.cons gR (.cons (.i .i64 1) (.cons (chI [1]) .nil)))),(45,.mp 1,(.cons gR (.cons (.i .i64 3) (.cons (chI [2,3,4]) .nil)))),(46,.mp 1,(.cons gR (.cons (.i .i64 3) (.cons (chI [1,3,4]) .nil)))),(47,.mp 1,(.cons gR (.cons (.i .i64 3) (.cons (chI [4]) .nil)))),(48,.mp 1,(.cons gR (.cons (.i .i64 3) (.cons (chI [3]) .nil))))]
set_option maxRecDepth 20000 in
theorem t_events (c:Cx g xa X xc w0):Tells Tryz.prog (rho g xa X xc w0) (65,0,chW l_events):=tells_made (by kernel_rfl) (by
 intro x hx
 unfold l_events at hx
 simp only [List.mem_cons,List.not_mem_nil,or_false] at hx
 rcases hx with rfl | rfl | rfl | rfl | rfl | rfl | rfl | rfl | rfl
 ·exact way_ev0 (kd:=1) rfl (fun w hb=>events_l g 1 none [] 0 w (c.gin.next hb) (nsin_none w) (by simp))
 ·exact way_ev0 (kd:=2) rfl (fun w hb=>events_l g 2 none [] 0 w (c.gin.next hb) (nsin_none w) (by simp))
 ·exact way_ev0 (kd:=3) rfl (fun w hb=>events_l g 3 none [] 0 w (c.gin.next hb) (nsin_none w) (by simp))
 ·exact way_ev (kd:=2) (x0:=2) (l:=[]) rfl (fun w a cc hb hn=>events_l g 2 a [2] cc w (c.gin.next hb) hn (by simp)) (val_chI g X)
 ·exact way_ev (kd:=1) (x0:=1) (l:=[]) rfl (fun w a cc hb hn=>events_l g 1 a [1] cc w (c.gin.next hb) hn (by simp)) (val_chI g X)
 ·exact way_ev (kd:=3) (x0:=2) (l:=[3,4]) rfl (fun w a cc hb hn=>events_l g 3 a [2,3,4] cc w (c.gin.next hb) hn (by simp)) (val_chI g X)
 ·exact way_ev (kd:=3) (x0:=1) (l:=[3,4]) rfl (fun w a cc hb hn=>events_l g 3 a [1,3,4] cc w (c.gin.next hb) hn (by simp)) (val_chI g X)
 ·exact way_ev (kd:=3) (x0:=4) (l:=[]) rfl (fun w a cc hb hn=>events_l g 3 a [4] cc w (c.gin.next hb) hn (by simp)) (val_chI g X)
 ·exact way_ev (kd:=3) (x0:=3) (l:=[]) rfl (fun w a cc hb hn=>events_l g 3 a [3] cc w (c.gin.next hb) hn (by simp)) (val_chI g X))
noncomputable def l_rf:List (Nat × RV × RV):=[(1,.mp 1,(.cons gR .nil))]
set_option maxRecDepth 20000 in
theorem t_rf (c:Cx g xa X xc w0):Tells Tryz.prog (rho g xa X xc w0) (179,0,chW l_rf):=tells_made (by kernel_rfl) (by
 intro x hx
 unfold l_rf at hx
 simp only [List.mem_cons,List.not_mem_nil,or_false] at hx
 subst hx
 exact way_g rfl (fun w hb=>readsFrom_l g w (c.gin.next hb).rf c.gin.e40 c.gin.r60))
noncomputable def l_co:List (Nat × RV × RV):=[(2,.mp 1,(.cons gR .nil))]
set_option maxRecDepth 20000 in
theorem t_co (c:Cx g xa X xc w0):Tells Tryz.prog (rho g xa X xc w0) (180,0,chW l_co):=tells_made (by kernel_rfl) (by
 intro x hx
 unfold l_co at hx
 simp only [List.mem_cons,List.not_mem_nil,or_false] at hx
 subst hx
 exact way_g rfl (fun w hb=>coherence_l g w (c.gin.next hb).co c.gin.e40 (gok_of c.ck).c4 c.gin.ccap (gok_of c.ck).l40))
noncomputable def l_inner:List (Nat × RV × RV):=[(20,.mp 1,(.cons gR (.cons (.mp 1) .nil)))]
set_option maxRecDepth 20000 in
theorem t_inner (c:Cx g xa X xc w0):Tells Tryz.prog (rho g xa X xc w0) (62,0,chW l_inner):=tells_made (by kernel_rfl) (by
 intro x hx
 unfold l_inner at hx
 simp only [List.mem_cons,List.not_mem_nil,or_false] at hx
 subst hx
 exact way_gr (op:=innerM g.E) (fun _=>rfl) (fun w b M hb h1=>inner_l g b M w (c.gin.next hb) h1 (c.tab.next hb)))
noncomputable def l_loc:List (Nat × RV × RV):=[(5,.mp 1,(.cons gR .nil))]
set_option maxRecDepth 20000 in
theorem t_loc (c:Cx g xa X xc w0):Tells Tryz.prog (rho g xa X xc w0) (91,0,chW l_loc):=tells_made (by kernel_rfl) (by
 intro x hx
 unfold l_loc at hx
 simp only [List.mem_cons,List.not_mem_nil,or_false] at hx
 subst hx
 exact way_g rfl (fun w hb=>loc_l g w (c.gin.next hb) (c.tab.next hb)))
noncomputable def l_rnew:List (Nat × RV × RV):=[(35,.mp 2,(.cons nR (.cons (opS 8) .nil))),(30,.mp 2,(.cons nR (.cons (opS 4) .nil))),(31,.mp 2,(.cons nR (.cons (opS 5) .nil))),(32,.mp 2,(.cons nR (.cons (opS 6) .nil))),(33,.mp 2,(.cons nR (.cons (opS 7) .nil))),(34,.mp 2,(.cons nR (.cons .ns .nil)))]
set_option maxRecDepth 20000 in
theorem t_rnew (c:Cx g xa X xc w0):Tells Tryz.prog (rho g xa X xc w0) (101,0,chW l_rnew):=tells_made (by kernel_rfl) (by
 intro x hx
 unfold l_rnew at hx
 simp only [List.mem_cons,List.not_mem_nil,or_false] at hx
 rcases hx with rfl | rfl | rfl | rfl | rfl | rfl
 ·exact way_new (j:=8) (fun _=>rfl) (fun w hb=>rnewin_l g.n xa X xc w c.gin.e40 c.xl (c.xin.next hb))
 ·exact way_new (j:=4) (fun _=>rfl) (fun w hb=>rnewin_l g.n g.ma g.Rmw g.mc w c.gin.e40 (by have:=c.gin.m50; omega) (c.gin.next hb).rmw)
 ·exact way_new (j:=5) (fun _=>rfl) (fun w hb=>rnewin_l g.n g.da g.Data g.dc w c.gin.e40 c.gin.d300 (c.gin.next hb).data)
 ·exact way_new (j:=6) (fun _=>rfl) (fun w hb=>rnewin_l g.n g.ta g.Ctrl g.tc w c.gin.e40 c.gin.t300 (c.gin.next hb).ctrl)
 ·exact way_new (j:=7) (fun _=>rfl) (fun w hb=>rnewin_l g.n g.ia g.CtrlI g.ic w c.gin.e40 c.gin.i300 (c.gin.next hb).ctrli)
 ·exact way_new0 rfl (fun w hb=>rnew_l g.n w c.gin.e40))
noncomputable def l_ror:List (Nat × RV × RV):=[(10,.mp 2,(.cons (.mp 2) (.cons (.mp 2) .nil)))]
set_option maxRecDepth 20000 in
theorem t_ror (c:Cx g xa X xc w0):Tells Tryz.prog (rho g xa X xc w0) (96,0,chW l_ror):=tells_made (by kernel_rfl) (by
 intro x hx
 unfold l_ror at hx
 simp only [List.mem_cons,List.not_mem_nil,or_false] at hx
 subst hx
 exact way_b (op:=orM) (fun _ _=>rfl) (fun w b c2 M S hb h1 h2=>ror_l b c2 g.n M S w h1 h2 c.gin.e40))
noncomputable def l_rand:List (Nat × RV × RV):=[(11,.mp 2,(.cons (.mp 2) (.cons (.mp 2) .nil)))]
set_option maxRecDepth 20000 in
theorem t_rand (c:Cx g xa X xc w0):Tells Tryz.prog (rho g xa X xc w0) (109,0,chW l_rand):=tells_made (by kernel_rfl) (by
 intro x hx
 unfold l_rand at hx
 simp only [List.mem_cons,List.not_mem_nil,or_false] at hx
 subst hx
 exact way_b (op:=andM) (fun _ _=>rfl) (fun w b c2 M S hb h1 h2=>rand_l b c2 g.n M S w h1 h2 c.gin.e40))
noncomputable def l_rthen:List (Nat × RV × RV):=[(13,.mp 2,(.cons (.mp 2) (.cons (.mp 2) .nil)))]
set_option maxRecDepth 20000 in
theorem t_rthen (c:Cx g xa X xc w0):Tells Tryz.prog (rho g xa X xc w0) (94,0,chW l_rthen):=tells_made (by kernel_rfl) (by
 intro x hx
 unfold l_rthen at hx
 simp only [List.mem_cons,List.not_mem_nil,or_false] at hx
 subst hx
 exact way_b (op:=seqM) (fun _ _=>rfl) (fun w b c2 M S hb h1 h2=>rthen_l b c2 g.n M S w h1 h2 c.gin.e40))
noncomputable def l_rback:List (Nat × RV × RV):=[(14,.mp 2,(.cons (.mp 2) .nil))]
set_option maxRecDepth 20000 in
theorem t_rback (c:Cx g xa X xc w0):Tells Tryz.prog (rho g xa X xc w0) (163,0,chW l_rback):=tells_made (by kernel_rfl) (by
 intro x hx
 unfold l_rback at hx
 simp only [List.mem_cons,List.not_mem_nil,or_false] at hx
 subst hx
 exact way_u (op:=backM) (fun _=>rfl) (fun w b M hb h1=>rback_l b g.n M w h1 c.gin.e40))
noncomputable def l_rplus:List (Nat × RV × RV):=[(15,.mp 2,(.cons (.mp 2) .nil))]
set_option maxRecDepth 20000 in
theorem t_rplus (c:Cx g xa X xc w0):Tells Tryz.prog (rho g xa X xc w0) (104,0,chW l_rplus):=tells_made (by kernel_rfl) (by
 intro x hx
 unfold l_rplus at hx
 simp only [List.mem_cons,List.not_mem_nil,or_false] at hx
 subst hx
 exact way_u (op:=plusM) (fun _=>rfl) (fun w b M hb h1=>rplus_l b g.n M w h1 c.gin.e40))
noncomputable def l_rmaybe:List (Nat × RV × RV):=[(16,.mp 2,(.cons (.mp 2) .nil))]
set_option maxRecDepth 20000 in
theorem t_rmaybe (c:Cx g xa X xc w0):Tells Tryz.prog (rho g xa X xc w0) (178,0,chW l_rmaybe):=tells_made (by kernel_rfl) (by
 intro x hx
 unfold l_rmaybe at hx
 simp only [List.mem_cons,List.not_mem_nil,or_false] at hx
 subst hx
 exact way_u (op:=maybeM g.n) (fun _=>rfl) (fun w b M hb h1=>rmaybe_l b g.n M w h1 c.gin.e40))
noncomputable def l_rpo:List (Nat × RV × RV):=[(6,.mp 2,(.cons gR .nil))]
set_option maxRecDepth 20000 in
theorem t_rpo (c:Cx g xa X xc w0):Tells Tryz.prog (rho g xa X xc w0) (92,0,chW l_rpo):=tells_made (by kernel_rfl) (by
 intro x hx
 unfold l_rpo at hx
 simp only [List.mem_cons,List.not_mem_nil,or_false] at hx
 subst hx
 exact way_g rfl (fun w hb=>rpo_p g w (c.gin.next hb).es c.gin.e40 (th_of c.ck)))
noncomputable def l_rkind:List (Nat × RV × RV):=[(60,.mp 2,(.cons gR (.cons (.i .i64 2) (.cons (.i .i64 0) (.cons (.i .i64 2) .nil))))),(61,.mp 2,(.cons gR (.cons (.i .i64 2) (.cons (.i .i64 2) (.cons (.i .i64 2) .nil))))),(62,.mp 2,(.cons gR (.cons (.i .i64 1) (.cons (.i .i64 1) (.cons (.i .i64 1) .nil))))),(63,.mp 2,(.cons gR (.cons (.i .i64 3) (.cons (.i .i64 2) (.cons (.i .i64 4) .nil))))),(64,.mp 2,(.cons gR (.cons (.i .i64 3) (.cons (.i .i64 1) (.cons (.i .i64 1) .nil))))),(65,.mp 2,(.cons gR (.cons (.i .i64 3) (.cons (.i .i64 3) (.cons (.i .i64 4) .nil))))),(66,.mp 2,(.cons gR (.cons (.i .i64 3) (.cons (.i .i64 1) (.cons (.i .i64 4) .nil))))),(67,.mp 2,(.cons gR (.cons (.i .i64 1) (.cons (.i .i64 0) (.cons (.i .i64 1) .nil))))),(68,.mp 2,(.cons gR (.cons (.i .i64 3) (.cons (.i .i64 4) (.cons (.i .i64 4) .nil))))),(69,.mp 2,(.cons gR (.cons (.i .i64 3) (.cons (.i .i64 3) (.cons (.i .i64 3) .nil))))),(70,.mp 2,(.cons gR (.cons (.i .i64 1) (.cons (.i .i64 0) (.cons (.i .i64 4) .nil))))),(71,.mp 2,(.cons gR (.cons (.i .i64 2) (.cons (.i .i64 0) (.cons (.i .i64 4) .nil)))))]
set_option maxRecDepth 20000 in
theorem t_rkind (c:Cx g xa X xc w0):Tells Tryz.prog (rho g xa X xc w0) (93,0,chW l_rkind):=tells_made (by kernel_rfl) (by
 intro x hx
 unfold l_rkind at hx
 simp only [List.mem_cons,List.not_mem_nil,or_false] at hx
 rcases hx with rfl | rfl | rfl | rfl | rfl | rfl | rfl | rfl | rfl | rfl | rfl | rfl
 ·exact way_k (kd:=2) (lo:=0) (hi:=2) rfl (fun w hb=>rkind_l g 2 0 2 w (c.gin.next hb).es c.gin.e40)
 ·exact way_k (kd:=2) (lo:=2) (hi:=2) rfl (fun w hb=>rkind_l g 2 2 2 w (c.gin.next hb).es c.gin.e40)
 ·exact way_k (kd:=1) (lo:=1) (hi:=1) rfl (fun w hb=>rkind_l g 1 1 1 w (c.gin.next hb).es c.gin.e40)
 ·exact way_k (kd:=3) (lo:=2) (hi:=4) rfl (fun w hb=>rkind_l g 3 2 4 w (c.gin.next hb).es c.gin.e40)
 ·exact way_k (kd:=3) (lo:=1) (hi:=1) rfl (fun w hb=>rkind_l g 3 1 1 w (c.gin.next hb).es c.gin.e40)
 ·exact way_k (kd:=3) (lo:=3) (hi:=4) rfl (fun w hb=>rkind_l g 3 3 4 w (c.gin.next hb).es c.gin.e40)
 ·exact way_k (kd:=3) (lo:=1) (hi:=4) rfl (fun w hb=>rkind_l g 3 1 4 w (c.gin.next hb).es c.gin.e40)
 ·exact way_k (kd:=1) (lo:=0) (hi:=1) rfl (fun w hb=>rkind_l g 1 0 1 w (c.gin.next hb).es c.gin.e40)
 ·exact way_k (kd:=3) (lo:=4) (hi:=4) rfl (fun w hb=>rkind_l g 3 4 4 w (c.gin.next hb).es c.gin.e40)
 ·exact way_k (kd:=3) (lo:=3) (hi:=3) rfl (fun w hb=>rkind_l g 3 3 3 w (c.gin.next hb).es c.gin.e40)
 ·exact way_k (kd:=1) (lo:=0) (hi:=4) rfl (fun w hb=>rkind_l g 1 0 4 w (c.gin.next hb).es c.gin.e40)
 ·exact way_k (kd:=2) (lo:=0) (hi:=4) rfl (fun w hb=>rkind_l g 2 0 4 w (c.gin.next hb).es c.gin.e40))
noncomputable def l_rrf:List (Nat × RV × RV):=[(1,.mp 2,(.cons gR .nil))]
set_option maxRecDepth 20000 in
theorem t_rrf (c:Cx g xa X xc w0):Tells Tryz.prog (rho g xa X xc w0) (103,0,chW l_rrf):=tells_made (by kernel_rfl) (by
 intro x hx
 unfold l_rrf at hx
 simp only [List.mem_cons,List.not_mem_nil,or_false] at hx
 subst hx
 exact way_g rfl (fun w hb=>rrf_l g w (c.gin.next hb).rf c.gin.e40 (rok_of c.ck)))
noncomputable def l_rco:List (Nat × RV × RV):=[(2,.mp 2,(.cons gR .nil))]
set_option maxRecDepth 20000 in
theorem t_rco (c:Cx g xa X xc w0):Tells Tryz.prog (rho g xa X xc w0) (108,0,chW l_rco):=tells_made (by kernel_rfl) (by
 intro x hx
 unfold l_rco at hx
 simp only [List.mem_cons,List.not_mem_nil,or_false] at hx
 subst hx
 exact way_g rfl (fun w hb=>rco_l g w (c.gin.next hb).co c.gin.e40 (gok_of c.ck).c4 (rok_of c.ck) (gok_of c.ck).l40))
noncomputable def l_rloc:List (Nat × RV × RV):=[(5,.mp 2,(.cons gR .nil))]
set_option maxRecDepth 20000 in
theorem t_rloc (c:Cx g xa X xc w0):Tells Tryz.prog (rho g xa X xc w0) (98,0,chW l_rloc):=tells_made (by kernel_rfl) (by
 intro x hx
 unfold l_rloc at hx
 simp only [List.mem_cons,List.not_mem_nil,or_false] at hx
 subst hx
 exact way_g rfl (fun w hb=>rloc_l g w (c.gin.next hb).es c.gin.e40 (th_of c.ck)))
noncomputable def l_rpart:List (Nat × RV × RV):=[(20,.mp 2,(.cons gR (.cons (.mp 2) (.cons (.b true) .nil)))),(21,.mp 2,(.cons gR (.cons (.mp 2) (.cons (.b false) .nil))))]
set_option maxRecDepth 20000 in
theorem t_rpart (c:Cx g xa X xc w0):Tells Tryz.prog (rho g xa X xc w0) (157,0,chW l_rpart):=tells_made (by kernel_rfl) (by
 intro x hx
 unfold l_rpart at hx
 simp only [List.mem_cons,List.not_mem_nil,or_false] at hx
 rcases hx with rfl | rfl
 ·exact way_grb (op:=innerM g.E) true (fun _=>rfl) (fun w b M hb h1=>by rw [← pt_true]; exact rpart_l g b M true w (c.gin.next hb).es c.gin.e40 h1)
 ·exact way_grb (op:=outerM g.E) false (fun _=>rfl) (fun w b M hb h1=>by rw [← pt_false]; exact rpart_l g b M false w (c.gin.next hb).es c.gin.e40 h1))
open Go.Rn (DscL dsc_cons dsc_nil den below_old)
end Told
end Go.Proofs.YthcnhbclagegeaaGreatDoor
namespace Go.Proofs.YthcnhbclagegeaaGreatDoor
open Go.RowKit RelA
attribute [local go_sem ↓] Go.wp_at_zero Go.wp_at_succ
set_option maxRecDepth 20000 in
set_option maxHeartbeats 3200000 in
theorem ex1 (e:Ev) (w:World):Calls Tryz.prog 79 #[e.v] w fun en w'=>en=.returned (.bool (exB e))∧Below w.heap.size w w':=by
 obtain ⟨x0,x1,x2,x3,x4,x5⟩:=e
 unfold exB Ev.v
 dsimp only
 have HB:Hid (Below w.heap.size w (w.alloc (Obj.cells #[.int .i64 x0,.int .i64 x1,.int .i64 x2,.int .i64 x3,.int .i64 x4,.bool x5] 53 (0,0)))):=Lib.hid ((Below.refl _ _).alloc (Nat.le_refl _) _)
 by_cases h1:x1=1
 ·have d1:(x1 == 1)=true:=by simp [h1]
  have HR:Hid (((x1 == 1) && x5)=x5):=Lib.hid (by simp [h1])
  rw [HR.out]
  clear h1
  go_enter Tryz.func79,Tryz.ntmps79
  go_wp2_with fail
  go_ret
  exact ⟨rfl,HB.out⟩
 ·have d1:(x1 == 1)=false:=by simp [h1]
  have HR:Hid (((x1 == 1) && x5)=false):=Lib.hid (by simp [h1])
  rw [HR.out]
  clear h1
  go_enter Tryz.func79,Tryz.ntmps79
  go_wp2_with fail
  go_ret
  exact ⟨rfl,HB.out⟩
set_option maxRecDepth 20000 in
set_option maxHeartbeats 3200000 in
theorem has_ex (ea:Option Addr) (E:List Ev) (ec:Nat) (i:Nat) (w:World) (h:EsIn w ea E) (hi:i < E.length) (hE:E.length≤100) :
  Calls Tryz.prog 153 #[.agg #[.slice ea E.length ec,.func (.func 79) #[] #[]],.int .i64 i] w fun en w'=>en=.returned (.bool (exB (Ev.at E i)))∧Below w.heap.size w w':=by
 have HC:=Lib.hid (fun (w':World) (_:Below w.heap.size w w')=>ex1 (Ev.at E i) w')
 have hlt:=hi
 have hdk:decide ((i:Int) < (E.length:Int))=true:=by simp; omega
 have hqi:(i:Int) < (E.length:Int):=by omega
 have hi100:(i:Int) < 100:=by omega
 have hd0:decide ((0:Int)≤(i:Int))=true:=by simp
 have HB:Hid (∀ o,Below w.heap.size w ((w.alloc o).drew)):=Lib.hid (fun o=>((Below.refl _ _).alloc (Nat.le_refl _) o).drew)
 rcases h.next ((Below.refl w.heap.size w).alloc (Nat.le_refl _) (Obj.cells #[.slice ea E.length ec,.func (.func 79) #[] #[]] 102 (0,0))) with h0 | ⟨b,o,rfl,hbl,hcc⟩
 ·rw [h0] at hlt; simp at hlt
 ·obtain ⟨d0,d1,d2,d3,d4,d5⟩:=hcc i hi
  clear hcc h hi
  change _=some (Value.int _ (Ev.at E i).th) at d0
  change _=some (Value.int _ (Ev.at E i).kd) at d1
  change _=some (Value.int _ (Ev.at E i).md) at d2
  change _=some (Value.int _ (Ev.at E i).lc) at d3
  change _=some (Value.int _ (Ev.at E i).vl) at d4
  change _=some (Value.bool (Ev.at E i).ex) at d5
  generalize Ev.at E i=ev at *
  obtain ⟨x0,x1,x2,x3,x4,x5⟩:=ev
  dsimp only [Ev.v] at d0 d1 d2 d3 d4 d5 HC
  generalize exB ⟨x0,x1,x2,x3,x4,x5⟩=pb at *
  go_enter Tryz.func153,Tryz.ntmps153
  go_wp2_with fail
  go_region_with (first
   | (go_at_call 79; refine (HC.out _ (HB.out _)).mono ?_; rintro en w' ⟨rfl,hb2⟩; have HB2:=Lib.hid (below_next (HB.out _) hb2); clear hb2))
  all_goals go_wp2_with fail
  all_goals go_ret
  all_goals exact ⟨rfl,HB2.out⟩
end Go.Proofs.YthcnhbclagegeaaGreatDoor
namespace Go.Proofs.YthcnhbclagegeaaGreatDoor
open Go.RowKit RelA
set_option maxRecDepth 20000 in
set_option maxHeartbeats 3200000 in
theorem set_ex (g:Gr) (w:World) (h:EsIn w g.ea g.E) (he:g.E.length≤40) (hc:g.E.length≤g.ec) :
  Calls Tryz.prog 78 #[g.v,.func (.func 79) #[] #[]] w (Makes g.n (diagM g.n fun i=>exB (Ev.at g.E i)) w):=by
 have HOF:=Lib.hid (fun base v L w hown=>of_own g base v L w he hown)
 have HH:=Lib.hid (fun i (hi:i < g.E.length) w' (hb:Below w.heap.size w w')=>has_ex g.ea g.E g.ec i w' (h.next hb) hi (by omega))
 have HG0:=Lib.hid (GBox.of_alloc w g 27)
 obtain ⟨G,hG⟩:∃ G,G=g:=⟨_,rfl⟩
 obtain ⟨locs,ea,E,ec,ra,R,rc,ca,C,cc,ma,Rmw,mc,da,Data,dc,ta,Ctrl,tc,ia,CtrlI,ic⟩:=g
 simp only [Gr.v,Gr.n,gcells] at he hc HOF h HH HG0 ⊢
 rw [← hG] at HG0
 have HI:=Lib.hid h
 clear h
 obtain ⟨i0,hi,hz0,hz1,hz2⟩:=info_parts info37
 have hmin:min (E.length:Int) 40=(E.length:Int):=by omega
 have HP:=Lib.hid (rfl:(fun i=>exB (Ev.at E i))=fun i=>exB (Ev.at E i))
 go_enter Tryz.func78,Tryz.ntmps78
 go_wp2_with fail
 obtain ⟨w0,hw0⟩:∃ x,x=w.alloc (Obj.cells #[.int .i64 locs,.slice ea E.length ec,.slice ra R.length rc,.slice ca C.length cc,.slice ma Rmw.length mc,.slice da Data.length dc,.slice ta Ctrl.length tc,.slice ia CtrlI.length ic] 27 (0,0)):=⟨_,rfl⟩
 rw [← hw0] at HG0 ⊢
 have hs0:w0.heap.size=w.heap.size + 1:=by rw [hw0]; simp
 obtain ⟨w1,hw1⟩:∃ x,x=w0.alloc (Obj.cells #[.slice ea E.length ec,.func (.func 79) #[] #[]] 102 (0,0)):=⟨_,rfl⟩
 rw [← hw1]
 have hs1:w1.heap.size=w.heap.size + 2:=by rw [hw1]; simp; omega
 have hb01:Below w0.heap.size w0 w1:=by rw [hw1]; exact (Below.refl _ _).alloc (Nat.le_refl _) _
 have HB1:Hid (Below w.heap.size w w1):=Lib.hid (below_next (by rw [hw0]; exact (Below.refl _ _).alloc (Nat.le_refl _) _) hb01)
 have HGx:=Lib.hid (HG0.out.next hb01)
 have f0:w1.cell? ⟨w.heap.size + 1,0,none⟩=some (.slice ea E.length ec):=by rw [hw1,← hs0,cell_of_row _ _ _ _ _ _ (heap_alloc_new _ _)]; rfl
 have f1:w1.cell? ⟨w.heap.size + 1,1,none⟩=some (.func (.func 79) #[] #[]):=by rw [hw1,← hs0,cell_of_row _ _ _ _ _ _ (heap_alloc_new _ _)]; rfl
 have F0:=Lib.hid f0
 have F1:=Lib.hid f1
 clear hw1 hw0 hb01 HG0 f0 f1 hs0
 have HI1:=Lib.hid (HI.out.next HB1.out)
 clear HI
 generalize hpp:(fun i=>exB (Ev.at E i))=p at *
 go_loopw [6,20] (fun v x wr=>∃ k:Nat,k≤E.length∧x=.int .i64 k∧wr.ownsRow w1.heap.size 56 2 v (seL p k).length (pairCells (seL p k))∧Below w1.heap.size w1 wr) (fun _ x _=>E.length - (intOf x).toNat)
 case atStart=>exact ⟨0,Nat.zero_le _,rfl,⟨rfl,.inl ⟨rfl,rfl⟩⟩,Below.refl _ _⟩
 case round=>
  obtain ⟨k,hk,rfl,hown,hbe⟩:=hrel
  have hsz:=hbe.size
  have hsl:=seL_len p k
  have HOWN:=Lib.hid hown
  clear hown
  by_cases hlt:k < E.length
  ·have hdk:decide ((k:Int) < (E.length:Int))=true:=by simp; omega
   have hki:(k:Int) < (E.length:Int):=by omega
   have hk40:(k:Int) < 40:=by omega
   have f0:=cell_next F0.out hbe
   have f1:=cell_next F1.out hbe
   have hpk:exB (Ev.at E k)=p k:=by rw [← hpp]
   have HC:=Lib.hid (HH.out k hlt wr (below_next HB1.out hbe))
   rw [hpk] at HC
   clear hpk
   go_wp2_with fail
   refine HC.out.mono ?_
   rintro e w3 ⟨rfl,hb3⟩
   have hbe3:=below_trans1 hbe hsz hb3
   have hsz3:=hbe3.size
   have HO3:=Lib.hid (own_next HOWN.out hb3)
   clear f0 f1 HC
   cases hpv:p k
   ·have HX:=Lib.hid hpv
    clear hpv
    go_wp2_with fail
    go_roundw
    case rel=>exact ⟨k + 1,by omega,by go_num,by rw [seL_no p k HX.out]; exact HO3.out,hbe3⟩
    case measure=>simp [intOf]; omega
   ·have HX:=Lib.hid hpv
    clear hpv
    have hb3s:=hbe3
    go_wp2_with (first
     | (at_builtin; refine wpList_append_own _ rfl (.tmp 26) (.tmp 30) 25 rfl w1.heap.size 56 i0 (.agg #[.int .i64 0,.int .i64 0]) 2 16 Tryz.underlying25 hi hz0 hz1 hz2 rfl (by decide) _ _ _ rfl (HO3.out.alloc _) ⟨w3.heap.size,0,none⟩ 1 1 [.int .i64 k,.int .i64 k] rfl rfl (World.news_of_block (cs:=#[.int .i64 k,.int .i64 k]) (t:=56) (fr:=(0,0)) (heap_alloc_new w3 _)) (by simp [Value.oneCell']) (by unfold maxLen; omega) (by omega) (by simp; omega) ?_; intro v1 w2 hown1 hgrow1 hnil1; have HO1:=Lib.hid hown1; have HG1:=Lib.hid hgrow1; clear hown1 hgrow1 hnil1))
    go_roundw
    case rel=>
     refine ⟨k + 1,by omega,by go_num,?_,?_⟩
     ·rw [seL_yes p k HX.out,pairCells_snoc,List.length_append]
      exact HO1.out
     ·exact (hbe3.alloc hsz3 _).grown HG1.out (by simp; omega) (fun j hj=>(HO3.out.lt j hj).1)
    case measure=>simp [intOf]; omega
  ·have hkN:k=E.length:=by omega
   subst hkN
   have hdk:decide ((E.length:Int) < (E.length:Int))=false:=by simp
   obtain ⟨c0,c1,c2,c3,c4,c5,c6,c7⟩:=HGx.out.next hbe
   rw [hG] at c0 c1 c2 c3 c4 c5 c6 c7
   dsimp only at c0 c1 c2 c3 c4 c5 c6 c7
   have HBw:=Lib.hid (below_next HB1.out hbe)
   have HC:=Lib.hid (HOF.out _ _ _ _ (own_cast HOWN.out))
   have HEQ:=Lib.hid (ofM_diag E.length p)
   rw [HEQ.out] at HC
   go_wp2_with fail
   refine HC.out.mono ?_
   rintro e w3 ⟨d,rfl,hat,hnw,hb3⟩
   have HNW:=Lib.hid (Nat.le_trans HBw.out.size hnw)
   clear hnw
   have HA:=Lib.hid hat
   have HBf:=Lib.hid (below_next HBw.out hb3)
   clear hat hb3
   go_wp2_with fail
   go_ret
   exact ⟨_,rfl,(by rw [hpp]; exact HA.out),HNW.out,HBf.out⟩
end Go.Proofs.YthcnhbclagegeaaGreatDoor
namespace Go.Proofs.YthcnhbclagegeaaGreatDoor
open Go.RowKit RelA
attribute [local irreducible] RelA.rcells
attribute [local go_sem ↓] Go.wp_at_zero Go.wp_at_succ
theorem rof_in (g:Gr) (a:Option Addr) (L:List (Int × Int)) (c:Nat) (w:World) (he:g.E.length≤40) (hl:L.length≤300) (h:PIn w a L c) :
  Calls Tryz.prog 100 #[g.v,.slice a L.length c] w (MakesR g.n (ofM g.n L) w):=by
 obtain ⟨locs,ea,E,ec,ra,R,rc,ca,C,cc,ma,Rmw,mc,da,Data,dc,ta,Ctrl,tc,ia,CtrlI,ic⟩:=g
 simp only [Gr.v,Gr.n] at he ⊢
 have H:=Lib.hid (fun o=>rnewin_l E.length a L c (w.alloc o) he hl (h.next ((Below.refl _ _).alloc (Nat.le_refl _) o)))
 clear h he hl
 go_enter Tryz.func100,Tryz.ntmps100
 go_wp2_with fail
 refine (H.out _).mono ?_
 rintro e w' ⟨d,rfl,hat,hnw,hbe⟩
 have HNW:Hid (w.heap.size≤d):=Lib.hid (by have:=hnw; simp at this; omega)
 have HA:=Lib.hid hat
 have HB:=Lib.hid (below_next ((Below.refl _ _).alloc (Nat.le_refl _) _) hbe)
 clear hat hbe hnw
 go_wp2_with fail
 go_ret
 exact ⟨_,rfl,HA.out,HNW.out,HB.out⟩
namespace RelA
theorem Rr.far {w w':World} {b n d:Nat} {M:Nat→Nat→Bool} (h:Rr w b n M) (hb:Below d w w') (hd:b < d):Rr w' b n M:=by
 obtain ⟨h1,h2⟩:=h
 refine ⟨?_,h2⟩
 unfold RAt at h1 ⊢
 rw [hb.block b hd,h1]
end RelA
set_option maxRecDepth 20000 in
set_option maxHeartbeats 6400000 in
theorem rdeps_l (g:Gr) (w:World) (hg:GIn w g) (hth:ThOk g.E) :
  Calls Tryz.prog 29 #[g.v] w (MakesR g.n (depsM g) w):=by
 have h:=hg.es
 have he:=hg.e40
 have HPO:=Lib.hid (fun w' (hb:Below w.heap.size w w')=>rpo_p g w' (hg.es.next hb) hg.e40 hth)
 have HD:=Lib.hid (fun w' (hb:Below w.heap.size w w')=>rof_in g g.da g.Data g.dc w' hg.e40 hg.d300 (hg.data.next hb))
 have HT:=Lib.hid (fun w' (hb:Below w.heap.size w w')=>rof_in g g.ta g.Ctrl g.tc w' hg.e40 hg.t300 (hg.ctrl.next hb))
 have hF:depsM g=orM (orM (ofM g.n g.Data) (ofM g.n g.Ctrl)) (seqM (diagM g.n fun i=>exB (Ev.at g.E i)) (poM g.E)):=rfl
 rw [hF]
 clear hF hg hth
 generalize poM g.E=MPO at *
 generalize ofM g.n g.Data=MD at *
 generalize ofM g.n g.Ctrl=MT at *
 have HG0:=Lib.hid (GBox.of_alloc w g 27)
 obtain ⟨G,hG⟩:∃ G,G=g:=⟨_,rfl⟩
 obtain ⟨locs,ea,E,ec,ra,R,rc,ca,C,cc,ma,Rmw,mc,da,Data,dc,ta,Ctrl,tc,ia,CtrlI,ic⟩:=g
 simp only [Gr.v,Gr.n,gcells] at he h HPO HD HT HG0 ⊢
 rw [← hG] at HG0
 have HI:=Lib.hid h
 clear h
 obtain ⟨p,hp⟩:∃ p,p=fun i=>exB (Ev.at E i):=⟨_,rfl⟩
 rw [← hp]
 go_enter Tryz.func29,Tryz.ntmps29
 go_wp2_with fail
 obtain ⟨w1,hw1⟩:∃ x,x=w.alloc (Obj.cells #[.int .i64 locs,.slice ea E.length ec,.slice ra R.length rc,.slice ca C.length cc,.slice ma Rmw.length mc,.slice da Data.length dc,.slice ta Ctrl.length tc,.slice ia CtrlI.length ic] 27 (0,0)):=⟨_,rfl⟩
 rw [← hw1] at HG0 ⊢
 have hs1:w1.heap.size=w.heap.size + 1:=by rw [hw1]; simp
 have HB1:Hid (Below w.heap.size w w1):=Lib.hid (by rw [hw1]; exact (Below.refl _ _).alloc (Nat.le_refl _) _)
 clear hw1
 have HI1:=Lib.hid (HI.out.next HB1.out)
 clear HI
 have HS1:=Lib.hid hs1
 clear hs1
 obtain ⟨c0,c1,c2,c3,c4,c5,c6,c7⟩:=HG0.out
 rw [hG] at c0 c1 c2 c3 c4 c5 c6 c7
 dsimp only at c0 c1 c2 c3 c4 c5 c6 c7
 have hBl:Bl w1 w1:=⟨Below.refl _ _⟩
 go_region_held3 (fun W=>W.cell? ⟨w.heap.size,0,none⟩=some (.int .i64 locs)∧W.cell? ⟨w.heap.size,1,none⟩=some (.slice ea E.length ec)∧W.cell? ⟨w.heap.size,2,none⟩=some (.slice ra R.length rc)∧W.cell? ⟨w.heap.size,3,none⟩=some (.slice ca C.length cc)∧W.cell? ⟨w.heap.size,4,none⟩=some (.slice ma Rmw.length mc)∧W.cell? ⟨w.heap.size,5,none⟩=some (.slice da Data.length dc)∧W.cell? ⟨w.heap.size,6,none⟩=some (.slice ta Ctrl.length tc)∧W.cell? ⟨w.heap.size,7,none⟩=some (.slice ia CtrlI.length ic)∧Bl w1 W)
  (first | (go_split_ands; exact ⟨cell_next ‹_› hbe,cell_next ‹_› hbe,cell_next ‹_› hbe,cell_next ‹_› hbe,cell_next ‹_› hbe,cell_next ‹_› hbe,cell_next ‹_› hbe,cell_next ‹_› hbe,⟨below_next (Bl.out ‹_›) hbe⟩⟩) | (go_split_ands; exact ⟨cell_next ‹_› (Below.refl _ _).drew,cell_next ‹_› (Below.refl _ _).drew,cell_next ‹_› (Below.refl _ _).drew,cell_next ‹_› (Below.refl _ _).drew,cell_next ‹_› (Below.refl _ _).drew,cell_next ‹_› (Below.refl _ _).drew,cell_next ‹_› (Below.refl _ _).drew,cell_next ‹_› (Below.refl _ _).drew,⟨(Bl.out ‹_›).drew⟩⟩) | (go_split_ands; exact ⟨cell_next ‹_› ((Below.refl _ _).alloc (Nat.le_refl _) _),cell_next ‹_› ((Below.refl _ _).alloc (Nat.le_refl _) _),cell_next ‹_› ((Below.refl _ _).alloc (Nat.le_refl _) _),cell_next ‹_› ((Below.refl _ _).alloc (Nat.le_refl _) _),cell_next ‹_› ((Below.refl _ _).alloc (Nat.le_refl _) _),cell_next ‹_› ((Below.refl _ _).alloc (Nat.le_refl _) _),cell_next ‹_› ((Below.refl _ _).alloc (Nat.le_refl _) _),cell_next ‹_› ((Below.refl _ _).alloc (Nat.le_refl _) _),⟨below_next (Bl.out ‹_›) ((Below.refl _ _).alloc (Nat.le_refl _) _)⟩⟩) | fail "keep")
  (first | (go_at_call 96; have hgd:=HA2; clear hgd; refine (ror_l _ _ _ _ _ _ HA1.out HA2.out he).mono ?_; rintro e wn ⟨d3,rfl,hat,hnw,hbe⟩; have HA3:=Lib.hid hat; clear hat hnw HA1 HA2) | (go_at_call 100; have hgd:=HA1; clear hgd; refine (HT.out _ (below_next HB1.out (Bl.out (by go_split_ands; assumption)))).mono ?_; rintro e wn ⟨d2,rfl,hat,hnw,hbe⟩; have HA2:=Lib.hid hat; have HA1:=Lib.hid (HA1.out.next hbe); clear hat hnw) | (go_at_call 100; refine (HD.out _ (below_next HB1.out (Bl.out (by go_split_ands; assumption)))).mono ?_; rintro e wn ⟨d1,rfl,hat,hnw,hbe⟩; have HA1:=Lib.hid hat; clear hat hnw))
 go_split_ands
 have HB:=Lib.hid (Bl.out ‹Bl w1 _›)
 have HGB:Hid (GBox _ w.heap.size G):=Lib.hid (show GBox _ w.heap.size G by rw [hG]; exact ⟨‹_›,‹_›,‹_›,‹_›,‹_›,‹_›,‹_›,‹_›⟩)
 go_wp2_with fail
 refine (rnew_l E.length _ he).mono ?_
 rintro e w2 ⟨d,rfl,hat,hnw,hbe1⟩
 have HNW:=Lib.hid (Nat.le_trans HB.out.size hnw)
 have HA3lt:=Lib.hid (show d3 < d from Nat.lt_of_lt_of_le (Array.getElem?_eq_some_iff.1 HA3.out.at_).1 hnw)
 have HA3:=Lib.hid (HA3.out.next hbe1)
 have HAT1:=Lib.hid hat.at_
 have HBE1:=Lib.hid (below_next HB.out hbe1)
 have HGB:=Lib.hid (HGB.out.next hbe1)
 clear hat hbe1 hnw HB
 obtain ⟨c0,c1,c2,c3,c4,c5,c6,c7⟩:=HGB.out
 rw [hG] at c0 c1 c2 c3 c4 c5 c6 c7
 dsimp only at c0 c1 c2 c3 c4 c5 c6 c7
 go_wp2_with fail
 go_loopw [5] (fun x wr=>∃ k:Nat,k≤E.length∧x=.int .i64 k∧RAt wr d E.length (dgTo E.length k p)∧Below w1.heap.size w1 wr∧Below d w2 wr) (fun x _=>E.length - (intOf x).toNat)
 case atStart=>exact ⟨0,Nat.zero_le _,rfl,HAT1.out.congr fun i j _ _=>dgTo_zero _ _ i j,HBE1.out,Below.refl _ _⟩
 case round=>
  obtain ⟨k,hk,rfl,hat,hbe,hbd⟩:=hrel
  clear c0 c1 c2 c3 c4 c5 c6 c7
  by_cases hlt:k < E.length
  ·have hr0:=hat.c0
   have hdk:decide ((k:Int) < (E.length:Int))=true:=by simp; omega
   have hki:(k:Int) < (E.length:Int):=by omega
   have hk40:(k:Int) < 40:=by omega
   have hpk:p k=exB (Ev.at E k):=by rw [hp]
   obtain ⟨c0,c1,c2,c3,c4,c5,c6,c7⟩:=HG0.out.next hbe
   rw [hG] at c0 c1 c2 c3 c4 c5 c6 c7
   dsimp only at c0 c1 c2 c3 c4 c5 c6 c7
   clear c0 c2 c3 c4 c5 c6 c7
   rcases HI1.out.next hbe with h0 | ⟨b,o,rfl,hbl,hcc⟩
   ·rw [h0] at hlt; simp at hlt
   ·obtain ⟨d0,d1,d2,d3x,d4,d5⟩:=hcc k hlt
    clear hcc
    change _=some (Value.int _ (Ev.at E k).th) at d0
    change _=some (Value.int _ (Ev.at E k).kd) at d1
    change _=some (Value.int _ (Ev.at E k).md) at d2
    change _=some (Value.int _ (Ev.at E k).lc) at d3x
    change _=some (Value.int _ (Ev.at E k).vl) at d4
    change _=some (Value.bool (Ev.at E k).ex) at d5
    generalize Ev.at E k=ev at *
    obtain ⟨x0,x1,x2,x3,x4,x5⟩:=ev
    unfold exB at hpk
    dsimp only at d0 d1 d2 d3x d4 d5 hpk
    have hd:=hat.ci k k (by omega) (by omega)
    rw [dgTo_at] at hd
    have hfz:=hat.frozen (1 + k * 40 + k)
    have HAT3:=Lib.hid hat
    have HST:=Lib.hid (dgTo_step E.length k p)
    have HBE3:=Lib.hid hbe
    have HBD3:=Lib.hid hbd
    clear hat hbe hbd d0 d2 d3x d4
    cases e1:(x1 == 1)
    ·have HX:Hid (p k=false):=Lib.hid (by rw [hpk,e1]; rfl)
     clear hpk
     go_wp2_with fail
     go_region
     go_wp2_with fail
     go_roundw
     case rel=>
      refine ⟨k + 1,by omega,by go_num,?_,(HBE3.out.setCell HNW.out _).drew,(HBD3.out.setCell (Nat.le_refl _) _).drew⟩
      have h1:=HAT3.out.set k k (p k) (by omega) (by omega)
      have h2:=(h1.congr fun i j _ _=>HST.out i j).drew
      rw [HX.out] at h2
      exact h2
     case measure=>simp [intOf]; omega
    ·cases x5
     ·have HX:Hid (p k=false):=Lib.hid (by rw [hpk,e1]; rfl)
      clear hpk
      go_wp2_with fail
      go_region
      go_wp2_with fail
      go_roundw
      case rel=>
       refine ⟨k + 1,by omega,by go_num,?_,(HBE3.out.setCell HNW.out _).drew,(HBD3.out.setCell (Nat.le_refl _) _).drew⟩
       have h1:=HAT3.out.set k k (p k) (by omega) (by omega)
       have h2:=(h1.congr fun i j _ _=>HST.out i j).drew
       rw [HX.out] at h2
       exact h2
      case measure=>simp [intOf]; omega
     ·have HX:Hid (p k=true):=Lib.hid (by rw [hpk,e1]; rfl)
      clear hpk
      go_wp2_with fail
      go_region
      go_wp2_with fail
      go_roundw
      case rel=>
       refine ⟨k + 1,by omega,by go_num,?_,(HBE3.out.setCell HNW.out _).drew,(HBD3.out.setCell (Nat.le_refl _) _).drew⟩
       have h1:=HAT3.out.set k k (p k) (by omega) (by omega)
       have h2:=(h1.congr fun i j _ _=>HST.out i j).drew
       rw [HX.out] at h2
       exact h2
      case measure=>simp [intOf]; omega
  ·have hkN:k=E.length:=by omega
   have hdk:decide ((k:Int) < (E.length:Int))=false:=by simp; omega
   have hwb:=below_next HB1.out hbe
   have HBf:=Lib.hid hwb
   have HRp:Hid (Rr wr d E.length (diagM E.length p)):=Lib.hid ⟨hat.congr fun i j _ _=>dgTo_full E.length k p hkN i j,wf_diag _ _⟩
   have HA3:=Lib.hid (HA3.out.far hbd HA3lt.out)
   obtain ⟨c0,c1,c2,c3,c4,c5,c6,c7⟩:=HG0.out.next hbe
   rw [hG] at c0 c1 c2 c3 c4 c5 c6 c7
   dsimp only at c0 c1 c2 c3 c4 c5 c6 c7
   clear hkN hat hbe hbd hwb
   go_wp2_with fail
   refine (HPO.out _ HBf.out).mono ?_
   rintro e w4 ⟨d4,rfl,hat,hnw,hbe⟩
   have HA4:=Lib.hid hat
   have HRp:=Lib.hid (HRp.out.next hbe)
   have HA3:=Lib.hid (HA3.out.next hbe)
   have HBf:=Lib.hid (below_next HBf.out hbe)
   clear hat hnw hbe c0 c1 c2 c3 c4 c5 c6 c7
   go_wp2_with fail
   refine (rthen_l _ _ _ _ _ _ HRp.out HA4.out he).mono ?_
   rintro e w5 ⟨d5,rfl,hat,hnw,hbe⟩
   have HA5:=Lib.hid hat
   have HA3:=Lib.hid (HA3.out.next hbe)
   have HBf:=Lib.hid (below_next HBf.out hbe)
   clear hat hnw hbe
   go_wp2_with fail
   refine (ror_l _ _ _ _ _ _ HA3.out HA5.out he).mono ?_
   rintro e w6 ⟨d6,rfl,hat,hnw,hbe⟩
   have HA6:=Lib.hid hat
   have HN6:=Lib.hid (Nat.le_trans HBf.out.size hnw)
   have HBf:=Lib.hid (below_next HBf.out hbe)
   clear hat hnw hbe
   go_wp2_with fail
   go_ret
   exact ⟨_,rfl,HA6.out,HN6.out,HBf.out⟩
end Go.Proofs.YthcnhbclagegeaaGreatDoor
namespace Go.Proofs.YthcnhbclagegeaaGreatDoor
open Go.RowKit RelA
namespace Told
open Go.Rn (Rho RV Mp Tells chW tells_made)
variable {g:Gr} {xa:Option Addr} {X:List (Int × Int)} {xc:Nat} {w0:World}
noncomputable def l_set:List (Nat × RV × RV):=[(80,.mp 1,(.cons gR (.cons (.fn 79 .nil) .nil)))]
set_option maxRecDepth 20000 in
theorem t_set (c:Cx g xa X xc w0):Tells Tryz.prog (rho g xa X xc w0) (78,0,chW l_set):=tells_made (by kernel_rfl) (by
 intro x hx
 unfold l_set at hx
 simp only [List.mem_cons,List.not_mem_nil,or_false] at hx
 subst hx
 exact way_cl (by decide) (fun _=>rfl) (fun w hb=>set_ex g w (c.gin.next hb).es c.gin.e40 c.gin.ecap))
noncomputable def l_rdeps:List (Nat × RV × RV):=[(81,.mp 2,(.cons gR .nil))]
set_option maxRecDepth 20000 in
theorem t_rdeps (c:Cx g xa X xc w0):Tells Tryz.prog (rho g xa X xc w0) (29,0,chW l_rdeps):=tells_made (by kernel_rfl) (by
 intro x hx
 unfold l_rdeps at hx
 simp only [List.mem_cons,List.not_mem_nil,or_false] at hx
 subst hx
 exact way_g rfl (fun w hb=>rdeps_l g w (c.gin.next hb) (th_of c.ck)))
end Told
namespace RelA
theorem ev_bar {g:Gr} (c:CheckOk g) (i:Nat) (hi:i < g.E.length):(Ev.at g.E i).kd=3→1≤(Ev.at g.E i).md∧(Ev.at g.E i).md≤4:=by
 intro h3
 have h:=(c.at_ i hi).1
 unfold evAt evOk at h
 split at h
 ·simp only [Bool.and_eq_true,beq_iff_eq] at h
  omega
 ·split at h
  ·cases h
  ·rw [h3] at h
   simp only [Bool.and_eq_true,decide_eq_true_eq,show ((3:Int) == 1)=false by decide,show ((3:Int) == 2)=false by decide,show ((3:Int) == 3)=true by decide,Bool.false_eq_true,if_false,if_true] at h
   exact ⟨h.1.1.1.1,h.1.1.1.2⟩
theorem bar_eq {g:Gr} (c:CheckOk g):evM g 3 []=kM g 3 1 4:=diagM_congr fun i hi=>by
 have h:=ev_bar c i hi
 unfold evB kindB
 by_cases e:(Ev.at g.E i).kd=3
 ·obtain ⟨h1,h2⟩:=h e
  simp [e,h1,h2]
 ·have e2:((Ev.at g.E i).kd == 3)=false:=beq_eq_false_iff_ne.2 e
  rw [e2]; rfl
theorem rd_eq {g:Gr} (c:CheckOk g):evM g 1 []=kM g 1 0 1:=diagM_congr fun i hi=>by
 have h:=(ev_kd c i hi).2.2
 unfold evB kindB
 by_cases e:(Ev.at g.E i).kd=1
 ·rcases h e with h | h <;> simp [e,h]
 ·have e2:((Ev.at g.E i).kd == 1)=false:=beq_eq_false_iff_ne.2 e
  rw [e2]; rfl
theorem sc_eq (g:Gr):evM g 3 [4]=kM g 3 4 4:=diagM_congr fun i _=>by
 unfold evB kindB
 rw [hasI1,Bool.eq_iff_iff]
 simp only [Bool.and_eq_true,Bool.or_eq_true,beq_iff_eq,decide_eq_true_eq,List.length_cons,List.length_nil]
 omega
theorem outer_eq (E:List Ev) (M:Nat→Nat→Bool):lessM M (innerM E M)=outerM E M:=less_inner E M
end RelA
end Go.Proofs.YthcnhbclagegeaaGreatDoor
