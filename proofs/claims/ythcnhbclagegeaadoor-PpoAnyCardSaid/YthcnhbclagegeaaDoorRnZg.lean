/-
  One text of a symbolic evaluator Zfe the model, shown sound once for every program: no statement is claimed here.
-/
import Derived.Test.YthcnhbclagegeaaDoorRnZd
import Derived.OpenShut
import Derived.ChangeArms
namespace Go.Rn
variable {ρ:Rho} {P:Program}
theorem Ykq {b g q:Nat} {C:Array Value} {el:TypeId} {fr:Nat × Nat} {w:World} (hB:w.heap[b]?=some (.cells C el fr)) {c:RV} {vs:List Value} (hl:Zav c=some q) {m0:Mp} (hd:Zbg ρ m0 c vs) (hc:∀ v ∈ vs,Zek v)
  (hv:∀ (j:Nat) (v:Value),vs[j]?=some v->C[j]?=some v) (hm:m0 b=some (b,0,C.size)) (hgb:b < g) (hmz:q ≠ Zas) (hp:ρ.w0=none):Sim P ρ m0 g (hst he (.bk (lay c ce 0) q) b) w:=by
 have one:∀ b' c' z,Rn.hg (hst he (.bk (lay c ce 0) q) b) b'=.bk c' z->b'=b/\c'=lay c ce 0/\z=q:=by
  intro b' c' z h
  rcases Za6 he (.bk (lay c ce 0) q) b b' with ⟨h1,h2 | h2⟩ | ⟨_,h2⟩
  ·rw [h2] at h; cases h; exact ⟨h1,rfl,rfl⟩
  ·rw [h2] at h; cases h
  ·rw [h2,Zk4] at h; cases h
 have hlen:=Zf0 q vs hl hd
 have key:∀ k,cg (lay c ce 0) k ≠ .un->k < q/\∃ u,vs[k]?=some u/\den ρ m0 (cg (lay c ce 0) k) u:=by
  intro k hk
  rcases Zik q vs ce 0 hl hd k hk with ⟨_,_,u,h2,h3⟩ | ⟨_,h1⟩
  ·rw [Nat.sub_zero] at h2
   refine ⟨?_,u,h2,h3⟩
   rcases Nat.lt_or_ge k vs.length with p | p
   ·omega
   ·rw [List.getElem?_eq_none p] at h2; cases h2
  ·exact absurd h1 hk
 refine ⟨fun b' c' z h=>?_,fun b' b'' c' z c'' z' B O Z O' Z' h h' _ _=>?_,Rho.Old.plain hp w,fun b' c' z B O Z hb' h _=>by have:=(one _ _ _ h).1; omega⟩
 ·obtain ⟨rfl,rfl,rfl⟩:=one b' c' z h
  refine ⟨b',0,C.size,hm,.inl ⟨hmz,C,el,fr,hB,rfl,fun hgb'=>by omega,fun k hk=>?_,fun k hk=>?_⟩⟩
  ·rcases Classical.em (cg (lay c ce 0) k=.un) with p | p
   ·exact p
   ·have:=(key k p).1; omega
  ·obtain ⟨_,u,h2,h3⟩:=key k hk
   exact ⟨u,by rw [Nat.zero_add]; exact hv k u h2,h3,hc u (List.mem_of_getElem? h2)⟩
 ·rw [(one _ _ _ h).1,(one _ _ _ h').1]
end Go.Rn
namespace Go.Rn
noncomputable def leafV {H:Type} (P:Program):Nat->TypeId->DataW H->Nat->Option Value
 | 0,_,_,_=>none
 | k + 1,t,d,o=>match P.underlying t,d with
  | some (.int j),.lit (.int _ z)=>if o=0 then some (.int j z) else none
  | some .bool,.lit (.bool b)=>if o=0 then some (.bool b) else none
  | some (.struct fs),.agg ds=>(List.range fs.size).findSome? fun i=>match fs[i]?,ds[i]? with
   | some f,some d'=>if f.offset<=o/\o < f.offset + P.cellsOf f.type then leafV P k f.type d' (o - f.offset) else none
   | _,_=>none
  | some (.array n e),.agg ds=>if o / P.cellsOf e < n then (ds[o / P.cellsOf e]?).bind fun d'=>if o % P.cellsOf e < P.cellsOf e then leafV P k e d' (o % P.cellsOf e) else none else none
  | _,_=>none
theorem leafV_ok {H:Type} {enc:TypeId × Value->H} {P:Program} {w:World} {base:Nat} {sp:Nat->Bool} {held:Bool}:∀ (k fuel:Nat) (t:TypeId) (d:DataW H) (o:Nat) (v:Value) (cs:List Value) (p:List MemPlace),
  leafV P k t d o=some v->DataW.trod enc P w base sp held fuel t cs=some (d,p)->cs[o]?=some v
 | 0,_,_,_,_,_,_,_,h,_=>by cases h
 | k + 1,fuel,t,d,o,v,cs,p,h,ht=>by
  unfold leafV at h
  split at h
  ·rename_i j j' z hu
   split at h
   ·rename_i ho
    subst ho
    cases h
    obtain ⟨n,rfl,hx,_⟩:=DataW.trod_int hu ht
    cases hx
    rfl
   ·cases h
  ·rename_i b hu
   split at h
   ·rename_i ho
    subst ho
    cases h
    obtain ⟨n,rfl,hx⟩:=DataW.trod_bool hu ht
    cases hx
    rfl
   ·cases h
  ·rename_i fs ds hu
   obtain ⟨xs,n,_,hx,_,_,hall⟩:=DataW.trod_struct hu ht
   cases hx
   obtain ⟨i,_,h2⟩:=List.exists_of_findSome?_eq_some h
   split at h2
   ·rename_i f d' hf hd
    split at h2
    ·rename_i ho
     have h3:=hall i f hf
     rw [List.getElem?_map] at hd
     cases hxi:xs[i]? with
     | none=>rw [hxi] at hd; cases hd
     | some y=>
      rw [hxi] at hd h3
      cases hd
      have:=leafV_ok k n f.type y.1 (o - f.offset) v _ y.2 h2 h3
      rw [List.getElem?_take_of_lt (by omega),List.getElem?_drop] at this
      rwa [show f.offset + (o - f.offset)=o by omega] at this
    ·cases h2
   ·cases h2
  ·rename_i n e ds hu
   obtain ⟨xs,m,_,hx,_,_,hall⟩:=DataW.trod_array hu ht
   cases hx
   split at h
   ·rename_i hn
    obtain ⟨d',hd,h2⟩:=Option.bind_eq_some_iff.1 h
    split at h2
    ·rename_i ho
     have h3:=hall _ hn
     rw [List.getElem?_map] at hd
     cases hxi:xs[o / P.cellsOf e]? with
     | none=>rw [hxi] at hd; cases hd
     | some y=>
      rw [hxi] at hd h3
      cases hd
      have:=leafV_ok k m e y.1 (o % P.cellsOf e) v _ y.2 h2 h3
      rw [List.getElem?_take_of_lt ho,List.getElem?_drop] at this
      have e1:o / P.cellsOf e * P.cellsOf e + o % P.cellsOf e=o:=Nat.div_add_mod' o (P.cellsOf e)
      rwa [e1] at this
    ·cases h2
   ·cases h
  ·cases h
end Go.Rn
namespace Go.Rn
variable {ρ:Rho} {P:Program}
theorem Zsz {ys:Ys} {fs:Nat->Option RF} {orc:Nat->RV->Option RV} (hy:YsOk ρ ys) (hfs:∀ f r,fs f=some r->Zak P f=some r) (ho:Zwk P ρ orc) {kc:Kc} (hk:Yqy P ρ kc) (hgl:P.globals.size<=100) {deep f:Nat} {c:RV} {w:World} (hw:ρ.Old w)
  (e:isB (Zh4 ys fs orc kc deep f c 100 he 100)=true) {vs:List Value} (hd:∀ m,Zbg ρ m c vs) (hf:f < 16777216:=by decide) :
  Calls P f vs.toArray w fun e w'=>e=.returned (.bool true)/\Old w w':=by
 unfold isB at e
 split at e
 ·rename_i h' n' hx
  obtain ⟨_,hc1,_⟩:=Zjc (g:=100) hy fs hfs ho hk deep f c 100 he 100 _ _ _ hx (Nat.le_refl _) (Nat.le_refl _)
  obtain ⟨_,hc⟩:=hc1 hf
  refine (hc (fun b=>if b < P.globals.size then some (b,0,0) else none) w vs ⟨fun b c z hb=>(by rw [Zk4] at hb; cases hb),fun b b' c z c' z' B O Z O' Z' hb=>(by rw [Zk4] at hb; cases hb),hw,fun b c z B O Z _ hb=>(by rw [Zk4] at hb; cases hb)⟩ (fun k hk=>⟨0,if_pos hk⟩) (hd _) (fun b h1 _=>if_neg (by omega))).mono ?_
  rintro e w' ⟨u,m',rfl,T,hu⟩
  have:u=.bool true:=hu
  subst this
  exact ⟨rfl,T.keep.os,T.keep.tape,T.keep.output,T.keep.size,fun k hk=>T.keep.block k hk (fun b c z O Z _ hb=>(by rw [Zk4] at hb; cases hb))⟩
 ·cases e
noncomputable def kcL (l:List (Nat × Nat × RV)):Kc:=fun f _=>@List.rec (Nat × Nat × RV) (fun _=>Option (Nat × RV)) none (fun e _ ih=>bf (Nat.beq e.1 f) (some (Nat.add 50331648 e.2.1,e.2.2)) ih) l
structure Tells (P:Program) (ρ:Rho) (e:Nat × Nat × RV):Prop where
 known:known P e.1=true
 made:e.2.1 ≠ 1->Ypz P ρ e.1 (33554432 + e.2.1) e.2.2
 given:e.2.1=1->Yyo P ρ e.1 e.2.2
theorem Zha:∀ {l:List (Nat × Nat × RV)},(∀ e ∈ l,Tells P ρ e)->Yqy P ρ (kcL l)
 | [],_=>fun f c q h=>by cases h
 | e::l,ha=>fun f c q h=>by
  have h1:bf (Nat.beq e.1 f) (some (Nat.add 50331648 e.2.1,e.2.2)) (kcL l f c)=some q:=h
  rcases Zaz h1 with ⟨h2,h3⟩ | ⟨_,h3⟩
  ·obtain rfl:=Zai h2
   cases h3
   have hT:=ha e List.mem_cons_self
   refine ⟨fun h=>?_,fun _=>?_⟩
   ·have:50331648 + e.2.1 < 16777216:=h
    omega
   ·show Yik P ρ e.1 (50331648 + e.2.1 - 16777216) e.2.2
    rw [show 50331648 + e.2.1 - 16777216=33554432 + e.2.1 by omega]
    exact ⟨hT.known,fun h=>by omega,fun _ h=>by omega,fun _=>⟨fun h=>hT.made (by omega),fun h=>hT.given (by omega)⟩⟩
  ·exact Zha (fun e he=>ha e (List.mem_cons_of_mem _ he)) f c q h3
def Way (P:Program) (ρ:Rho) (f:Nat) (F:Nat) (k s:RV):Prop:=∀ (ds:RV),Zus s ds=true->∀ (m:Mp) (w:World) (vs:List Value),ρ.Old w->Zrl ρ m w ds vs ->
 Calls P f vs.toArray w (fun e w'=>∃ (B:Nat) (C:Array Value) (el:TypeId) (fr:Nat × Nat),e=.returned (Yaq B)/\w.heap.size<=B/\w'.heap[B]?=some (.cells C el fr)/\ρ.th (.cons k (.fn F ds)) (.cells C el fr)/\Old w w')
def chW:List (Nat × RV × RV)->RV
 | []=>.nil
 | a::l=>.cons (.fn a.1 (.cons (.cons a.2.1 .nil) a.2.2)) (chW l)
theorem Zyf {a:RV}:∀ {l:List (Nat × RV × RV)},inC (chW l) a->∃ x ∈ l,a=.fn x.1 (.cons (.cons x.2.1 .nil) x.2.2)
 | [],h=>h.elim
 | x::l,h=>by
  rcases (show a=_ ∨ inC (chW l) a from h) with h | h
  ·exact ⟨x,List.mem_cons_self,h⟩
  ·obtain ⟨y,h1,h2⟩:=Zyf h
   exact ⟨y,List.mem_cons_of_mem _ h1,h2⟩
theorem Yin {f:Nat} {l:List (Nat × RV × RV)} (hl:∀ x ∈ l,Way P ρ f x.1 x.2.1 x.2.2):Ypz P ρ f 33554432 (chW l):=by
 intro F ks s hi ds hs m w vs hw hd
 obtain ⟨x,hx,e⟩:=Zyf hi
 cases e
 refine (hl x hx ds hs m w vs hw hd).mono ?_
 rintro e w' ⟨B,C,el,fr,rfl,h1,h2,h3,o⟩
 exact ⟨[B],rfl,⟨B,[],C,el,fr,rfl,h1,by simp,h2,h3,rfl⟩,o⟩
theorem Zaj {f:Nat} {l:List (Nat × RV × RV)} (hk:known P f=true) (hl:∀ x ∈ l,Way P ρ f x.1 x.2.1 x.2.2):Tells P ρ (f,0,chW l):=⟨hk,fun _=>Yin hl,fun h=>by cases h⟩
def chV:List (RV × RV)->RV
 | []=>.nil
 | a::l=>.cons (.cons a.1 a.2) (chV l)
theorem Zyg {a:RV}:∀ {l:List (RV × RV)},inC (chV l) a->∃ x ∈ l,a=.cons x.1 x.2
 | [],h=>h.elim
 | x::l,h=>by
  rcases (show a=_ ∨ inC (chV l) a from h) with h | h
  ·exact ⟨x,List.mem_cons_self,h⟩
  ·obtain ⟨y,h1,h2⟩:=Zyg h
   exact ⟨y,List.mem_cons_of_mem _ h1,h2⟩
theorem Ze6 {f:Nat} {l:List (RV × RV)} (hk:known P f=true) (hl:∀ x ∈ l,∀ (m:Mp) (w:World) (vs:List Value),ρ.Old w->Zrl ρ m w x.1 vs->Calls P f vs.toArray w (fun e w'=>∃ u:Value,e=.returned u/\Old w w'/\∀ m',den ρ m' x.2 u)):Tells P ρ (f,1,chV l):=
 ⟨hk,fun h=>absurd rfl h,fun _=>by
  intro s r hi m w vs hw hd
  obtain ⟨x,hx,e⟩:=Zyg hi
  cases e
  exact hl x hx m w vs hw hd⟩
theorem dsc_nil {m:Mp} {w:World} {vs:List Value} (h:Zrl ρ m w .nil vs):vs=[]:=h
theorem dsc_cons {m:Mp} {w:World} {d t:RV} {vs:List Value} (h:Zrl ρ m w (.cons d t) vs):∃ x xs,vs=x::xs/\Ypw ρ m w d x/\Zrl ρ m w t xs:=h
theorem Zar {x r d:RV} (h:Zus (.cons x r) d=true):∃ y t,d=.cons y t/\Ypk x y=true/\Zus r t=true:=by
 have h1:gN false d false (fun y t=>bf (Ypk x y) (Zus r t) false)=true:=h
 rcases Zba h1 (by simp) with ⟨_,h2⟩ | ⟨y,t,rfl,h2⟩
 ·cases h2
 ·obtain ⟨h3,h4⟩:=Zac h2 (by simp)
  exact ⟨y,t,rfl,h3,h4⟩
theorem Zb8 {d:RV} (h:Zus .nil d=true):d=.nil:=by
 have h1:gN false d true (fun _ _=>false)=true:=h
 rcases Zba h1 (by simp) with ⟨h2,_⟩ | ⟨_,_,_,h2⟩
 ·exact h2
 ·cases h2
theorem Zer {k:Nat} {d:RV} (h:Ypk (.mp k) d=true):∃ t,d=.tup (.cons (.mp k) t):=by
 have h1:gT false d (fun t=>gN false t false fun hd _=>gM false hd fun k'=>Nat.beq k k')=true:=h
 obtain ⟨t,rfl,h2⟩:=Yic h1 (by simp)
 rcases Zba h2 (by simp) with ⟨_,h3⟩ | ⟨hd,t',rfl,h3⟩
 ·cases h3
 ·cases hd with
  | mp k'=>exact ⟨t',by rw [Zai (show Nat.beq k k'=true from h3)]⟩
  | _=>cases h3
theorem Zbd {s d:RV} (hs:∀ k,s ≠ .mp k) (h:Ypk s d=true):d=s:=by
 refine (Zjw s d ?_).symm
 cases s with
 | mp k=>exact absurd rfl (hs k)
 | _=>exact h
theorem Zet {w w':World} (o:Go.RowKit.Below w.heap.size w w'):Old w w':=⟨o.os,o.tape,o.output,o.size,o.block⟩
noncomputable def inL (l:List (Nat × RF)) (f:Nat):Option RF:=@List.rec (Nat × RF) (fun _=>Option RF) none (fun e _ ih=>bf (Nat.beq e.1 f) (some e.2) ih) l
theorem Zge {P:Program}:∀ {l:List (Nat × RF)},(∀ e ∈ l,Zak P e.1=some e.2)->∀ f r,inL l f=some r->Zak P f=some r
 | [],_,f,r,h=>by cases h
 | e::l,ha,f,r,h=>by
  have h1:bf (Nat.beq e.1 f) (some e.2) (inL l f)=some r:=h
  rcases Zaz h1 with ⟨h2,h3⟩ | ⟨_,h3⟩
  ·have:=Zai h2
   subst this
   cases h3
   exact ha e List.mem_cons_self
  ·exact Zge (fun e he=>ha e (List.mem_cons_of_mem _ he)) f r h3
end Go.Rn
