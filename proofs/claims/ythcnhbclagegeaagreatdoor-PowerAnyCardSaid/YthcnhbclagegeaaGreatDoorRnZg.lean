/-
  One text of a symbolic evaluator over the model, shown sound once for every program: no statement is claimed here.
-/
import Derived.Test.YthcnhbclagegeaaGreatDoorRnZd
import Derived.OpenShut
import Derived.ChangeArms
namespace Go.Rn
variable {ρ:Rho} {P:Program}
end Go.Rn
namespace Go.Rn
end Go.Rn
namespace Go.Rn
variable {ρ:Rho} {P:Program}
theorem Ze3 {ys:Ys} {fs:Nat->Option RF} {orc:Nat->RV->Option RV} (hy:YsOk ρ ys) (hfs:∀ f r,fs f=some r->Zas P f=some r) (ho:Zpo P ρ orc) {kc:Kc} (hk:Yhu P ρ kc) (hgl:P.globals.size<=100) {deep f:Nat} {c:RV} {w:World} (hw:ρ.Old w)
  (e:isB (Zcc ys fs orc kc deep f c 100 he 100)=true) {vs:List Value} (hd:∀ m,Zbg ρ m c vs) (hf:f<16777216:=by decide) :
  Calls P f vs.toArray w fun e w'=>e=.returned (.bool true)/\Old w w':=by
 unfold isB at e
 split at e
 ·rename_i h' n' hx
  obtain⟨_,hc1,_⟩:=Zfy (g:=100) hy fs hfs ho hk deep f c 100 he 100 _ _ _ hx (Nat.le_refl _) (Nat.le_refl _)
  obtain⟨_,hc⟩:=hc1 hf
  refine(hc (fun b=>if b<P.globals.size then some (b,0,0) else none) w vs ⟨fun b c z hb=>(by rw[Zep] at hb;cases hb),fun b b' c z c' z' B O Z O' Z' hb=>(by rw[Zep] at hb;cases hb),hw,fun b c z B O Z _ hb=>(by rw[Zep] at hb;cases hb)⟩ (fun k hk=>⟨0,if_pos hk⟩) (hd _) (fun b h1 _=>if_neg (by omega))).mono ?_
  rintro e w' ⟨u,m',rfl,T,hu⟩
  have:u=.bool true:=hu
  subst this
  exact⟨rfl,T.keep.os,T.keep.tape,T.keep.output,T.keep.size,fun k hk=>T.keep.block k hk (fun b c z O Z _ hb=>(by rw[Zep] at hb;cases hb))⟩
 ·cases e
def Zt1 (r:SR):Option Bool:=match r with | .ok (.b x) _ _=>some x | _=>none
theorem Zci {ys:Ys} {fs:Nat->Option RF} {orc:Nat->RV->Option RV} (hy:YsOk ρ ys) (hfs:∀ f r,fs f=some r->Zas P f=some r) (ho:Zpo P ρ orc) {kc:Kc} (hk:Yhu P ρ kc) (hgl:P.globals.size<=100) {deep f:Nat} {c:RV} {x:Bool} {w:World} (hw:ρ.Old w)
  (e:Zt1 (Zcc ys fs orc kc deep f c 100 he 100)=some x) {vs:List Value} (hd:∀ m,Zbg ρ m c vs) (hf:f<16777216:=by decide) :
  Calls P f vs.toArray w fun e w'=>e=.returned (.bool x)/\Old w w':=by
 unfold Zt1 at e
 split at e
 ·rename_i x' h' n' hx
  cases e
  obtain⟨_,hc1,_⟩:=Zfy (g:=100) hy fs hfs ho hk deep f c 100 he 100 _ _ _ hx (Nat.le_refl _) (Nat.le_refl _)
  obtain⟨_,hc⟩:=hc1 hf
  refine(hc (fun b=>if b<P.globals.size then some (b,0,0) else none) w vs ⟨fun b c z hb=>(by rw[Zep] at hb;cases hb),fun b b' c z c' z' B O Z O' Z' hb=>(by rw[Zep] at hb;cases hb),hw,fun b c z B O Z _ hb=>(by rw[Zep] at hb;cases hb)⟩ (fun k hk=>⟨0,if_pos hk⟩) (hd _) (fun b h1 _=>if_neg (by omega))).mono ?_
  rintro e w' ⟨u,m',rfl,T,hu⟩
  have:u=.bool x:=hu
  subst this
  exact⟨rfl,T.keep.os,T.keep.tape,T.keep.output,T.keep.size,fun k hk=>T.keep.block k hk (fun b c z O Z _ hb=>(by rw[Zep] at hb;cases hb))⟩
 ·cases e
noncomputable def Zg3 (r:SR):Option RV:=match r with | .ok (.p b 0) h _=>gMK none (hg h b) fun cs=>gT none (cg cs 0) some | _=>none
theorem Zck {ys:Ys} {fs:Nat->Option RF} {orc:Nat->RV->Option RV} (hy:YsOk ρ ys) (hfs:∀ f r,fs f=some r->Zas P f=some r) (ho:Zpo P ρ orc) {kc:Kc} (hk:Yhu P ρ kc) (hgl:P.globals.size<=100) {deep f:Nat} {c t:RV} {w:World} (hw:ρ.Old w)
  (e:Zg3 (Zcc ys fs orc kc deep f c 100 he 100)=some t) {vs:List Value} (hd:∀ m,Zbg ρ m c vs) (hf:f<16777216:=by decide) :
  Calls P f vs.toArray w fun e w'=>∃ (B:Nat) (C:Array Value) (el:TypeId) (fr:Nat×Nat),e=.returned (Zya B)/\w'.heap[B]?=some (.cells C el fr)/\ρ.th t (.cells C el fr)/\Old w w':=by
 unfold Zg3 at e
 split at e
 ·rename_i b h' n' hx
  obtain⟨_,hc1,_⟩:=Zfy (g:=100) hy fs hfs ho hk deep f c 100 he 100 _ _ _ hx (Nat.le_refl _) (Nat.le_refl _)
  obtain⟨_,hc⟩:=hc1 hf
  obtain⟨cs,hb,e2⟩:=Zfg e (by simp)
  obtain⟨t',ht,e3⟩:=Zy0 e2 (by simp)
  cases e3
  refine(hc (fun b=>if b<P.globals.size then some (b,0,0) else none) w vs ⟨fun b c z hb=>(by rw[Zep] at hb;cases hb),fun b b' c z c' z' B O Z O' Z' hb=>(by rw[Zep] at hb;cases hb),hw,fun b c z B O Z _ hb=>(by rw[Zep] at hb;cases hb)⟩ (fun k hk=>⟨0,if_pos hk⟩) (hd _) (fun b h1 _=>if_neg (by omega))).mono ?_
  rintro e w' ⟨u,m',rfl,T,hu⟩
  obtain⟨B,Z,C,el,fr,q1,q2,q3⟩:=T.sim.told hb ht
  obtain⟨B',O',Z',q4,rfl⟩:=hu
  rw[q1] at q4
  cases q4
  exact⟨B,C,el,fr,rfl,q2,q3,T.keep.os,T.keep.tape,T.keep.output,T.keep.size,fun k hk=>T.keep.block k hk (fun b c z O Z _ hb=>(by rw[Zep] at hb;cases hb))⟩
 ·cases e
noncomputable def kcL (l:List (Nat×Nat×RV)):Kc:=fun f _=>@List.rec (Nat×Nat×RV) (fun _=>Option (Nat×RV)) none (fun e _ ih=>bf (Nat.beq e.1 f) (some (Nat.add 50331648 e.2.1,e.2.2)) ih) l
structure Tells (P:Program) (ρ:Rho) (e:Nat×Nat×RV):Prop where
 known:known P e.1=true
 made:e.2.1≠1->Yhw P ρ e.1 (33554432+e.2.1) e.2.2
 given:e.2.1=1->Ypc P ρ e.1 e.2.2
theorem Zbr:∀ {l:List (Nat×Nat×RV)},(∀ e∈l,Tells P ρ e)->Yhu P ρ (kcL l)
 | [],_=>fun f c q h=>by cases h
 | e::l,ha=>fun f c q h=>by
  have h1:bf (Nat.beq e.1 f) (some (Nat.add 50331648 e.2.1,e.2.2)) (kcL l f c)=some q:=h
  rcases Za0 h1 with⟨h2,h3⟩ | ⟨_,h3⟩
  ·obtain rfl:=Zak h2
   cases h3
   have hT:=ha e List.mem_cons_self
   refine⟨fun h=>?_,fun _=>?_⟩
   ·have:50331648+e.2.1<16777216:=h
    omega
   ·show Yeg P ρ e.1 (50331648+e.2.1-16777216) e.2.2
    rw[show 50331648+e.2.1-16777216=33554432+e.2.1 by omega]
    exact⟨hT.known,fun h=>by omega,fun _ h=>by omega,fun _=>⟨fun h=>hT.made (by omega),fun h=>hT.given (by omega)⟩⟩
  ·exact Zbr (fun e he=>ha e (List.mem_cons_of_mem _ he)) f c q h3
def Way (P:Program) (ρ:Rho) (f:Nat) (F:Nat) (k s:RV):Prop:=∀ (ds:RV),Ztz s ds=true->∀ (m:Mp) (w:World) (vs:List Value),ρ.Old w->Zkv ρ m w ds vs ->
 Calls P f vs.toArray w (fun e w'=>∃ (B:Nat) (C:Array Value) (el:TypeId) (fr:Nat×Nat),e=.returned (Zya B)/\w.heap.size<=B/\w'.heap[B]?=some (.cells C el fr)/\ρ.th (.cons k (.fn F ds)) (.cells C el fr)/\Old w w')
def chW:List (Nat×RV×RV)->RV
 | []=>.nil
 | a::l=>.cons (.fn a.1 (.cons (.cons a.2.1 .nil) a.2.2)) (chW l)
theorem Zwf {a:RV}:∀ {l:List (Nat×RV×RV)},inC (chW l) a->∃ x∈l,a=.fn x.1 (.cons (.cons x.2.1 .nil) x.2.2)
 | [],h=>h.elim
 | x::l,h=>by
  rcases (show a=_∨inC (chW l) a from h) with h | h
  ·exact⟨x,List.mem_cons_self,h⟩
  ·obtain⟨y,h1,h2⟩:=Zwf h
   exact⟨y,List.mem_cons_of_mem _ h1,h2⟩
theorem Yej {f:Nat} {l:List (Nat×RV×RV)} (hl:∀ x∈l,Way P ρ f x.1 x.2.1 x.2.2):Yhw P ρ f 33554432 (chW l):=by
 intro F ks s hi ds hs m w vs hw hd
 obtain⟨x,hx,e⟩:=Zwf hi
 cases e
 refine(hl x hx ds hs m w vs hw hd).mono ?_
 rintro e w' ⟨B,C,el,fr,rfl,h1,h2,h3,o⟩
 exact⟨[B],rfl,⟨B,[],C,el,fr,rfl,h1,by simp,h2,h3,rfl⟩,o⟩
theorem Zaj {f:Nat} {l:List (Nat×RV×RV)} (hk:known P f=true) (hl:∀ x∈l,Way P ρ f x.1 x.2.1 x.2.2):Tells P ρ (f,0,chW l):=⟨hk,fun _=>Yej hl,fun h=>by cases h⟩
def chV:List (RV×RV)->RV
 | []=>.nil
 | a::l=>.cons (.cons a.1 a.2) (chV l)
theorem Zwg {a:RV}:∀ {l:List (RV×RV)},inC (chV l) a->∃ x∈l,a=.cons x.1 x.2
 | [],h=>h.elim
 | x::l,h=>by
  rcases (show a=_∨inC (chV l) a from h) with h | h
  ·exact⟨x,List.mem_cons_self,h⟩
  ·obtain⟨y,h1,h2⟩:=Zwg h
   exact⟨y,List.mem_cons_of_mem _ h1,h2⟩
theorem Zau {f:Nat} {l:List (RV×RV)} (hk:known P f=true) (hl:∀ x∈l,∀ (m:Mp) (w:World) (vs:List Value),ρ.Old w->Zkv ρ m w x.1 vs->Calls P f vs.toArray w (fun e w'=>∃ u:Value,e=.returned u/\Old w w'/\∀ m',den ρ m' x.2 u)):Tells P ρ (f,1,chV l):=
 ⟨hk,fun h=>absurd rfl h,fun _=>by
  intro s r hi m w vs hw hd
  obtain⟨x,hx,e⟩:=Zwg hi
  cases e
  exact hl x hx m w vs hw hd⟩
theorem dsc_nil {m:Mp} {w:World} {vs:List Value} (h:Zkv ρ m w .nil vs):vs=[]:=h
theorem dsc_cons {m:Mp} {w:World} {d t:RV} {vs:List Value} (h:Zkv ρ m w (.cons d t) vs):∃ x xs,vs=x::xs/\Yhv ρ m w d x/\Zkv ρ m w t xs:=h
theorem Zap {x r d:RV} (h:Ztz (.cons x r) d=true):∃ y t,d=.cons y t/\Yhn x y=true/\Ztz r t=true:=by
 have h1:gN false d false (fun y t=>bf (Yhn x y) (Ztz r t) false)=true:=h
 rcases Zbd h1 (by simp) with⟨_,h2⟩ | ⟨y,t,rfl,h2⟩
 ·cases h2
 ·obtain⟨h3,h4⟩:=Zad h2 (by simp)
  exact⟨y,t,rfl,h3,h4⟩
theorem Zca {d:RV} (h:Ztz .nil d=true):d=.nil:=by
 have h1:gN false d true (fun _ _=>false)=true:=h
 rcases Zbd h1 (by simp) with⟨h2,_⟩ | ⟨_,_,_,h2⟩
 ·exact h2
 ·cases h2
theorem Zev {k:Nat} {d:RV} (h:Yhn (.mp k) d=true):∃ t,d=.tup (.cons (.mp k) t):=by
 have h1:gT false d (fun t=>gN false t false fun hd _=>gM false hd fun k'=>Nat.beq k k')=true:=h
 obtain⟨t,rfl,h2⟩:=Zy0 h1 (by simp)
 rcases Zbd h2 (by simp) with⟨_,h3⟩ | ⟨hd,t',rfl,h3⟩
 ·cases h3
 ·cases hd with
  | mp k'=>exact⟨t',by rw[Zak (show Nat.beq k k'=true from h3)]⟩
  | _=>cases h3
theorem Zbh {s d:RV} (hs:∀ k,s≠.mp k) (h:Yhn s d=true):d=s:=by
 refine(Zj6 s d ?_).symm
 cases s with
 | mp k=>exact absurd rfl (hs k)
 | _=>exact h
theorem Za7 {w w':World} (o:Go.RowKit.Below w.heap.size w w'):Old w w':=⟨o.os,o.tape,o.output,o.size,o.block⟩
noncomputable def inL (l:List (Nat×RF)) (f:Nat):Option RF:=@List.rec (Nat×RF) (fun _=>Option RF) none (fun e _ ih=>bf (Nat.beq e.1 f) (some e.2) ih) l
theorem Zbk {P:Program}:∀ {l:List (Nat×RF)},(∀ e∈l,Zas P e.1=some e.2)->∀ f r,inL l f=some r->Zas P f=some r
 | [],_,f,r,h=>by cases h
 | e::l,ha,f,r,h=>by
  have h1:bf (Nat.beq e.1 f) (some e.2) (inL l f)=some r:=h
  rcases Za0 h1 with⟨h2,h3⟩ | ⟨_,h3⟩
  ·have:=Zak h2
   subst this
   cases h3
   exact ha e List.mem_cons_self
  ·exact Zbk (fun e he=>ha e (List.mem_cons_of_mem _ he)) f r h3
end Go.Rn
