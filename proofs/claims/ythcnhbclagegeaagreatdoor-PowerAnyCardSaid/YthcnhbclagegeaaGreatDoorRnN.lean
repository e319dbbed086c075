/-
  One text of a symbolic evaluator over the model, shown sound once for every program: no statement is claimed here.
-/
import Derived.Test.YthcnhbclagegeaaGreatDoorRnK
import Derived.Laws.MakeOwn
namespace Go.Rn
variable {ρ:Rho} {m m':Mp} {P:Program}
/-! ### laying parts Zjs a chain -/
theorem Zxh {z:RV}:∀ (p:RV) (k:Nat) (zs ps:List Value),Zfc z p k≠.un->Zbg ρ m z zs->Zbg ρ m p ps->(ps=[]∨k+ps.length<=zs.length)/\Zbg ρ m (Zfc z p k) (zs.take k++ps++zs.drop (k+ps.length)):=by
 induction z with
 | nil=>
  intro p k zs ps h hz hp
  have e:Zfc .nil p k=gN .un p .nil (fun _ _=>.un):=rfl
  rw[e] at h ⊢
  rcases Zbd (x:=gN RV.un p RV.nil (fun _ _=>RV.un)) rfl (fun q=>h q.symm) with⟨rfl,e2⟩ | ⟨_,_,_,e2⟩
  ·rw[<- e2,denC_nil.1 hz,denC_nil.1 hp]
   exact⟨.inl rfl,denC_nil.2 (by simp)⟩
  ·exact absurd e2.symm h
 | cons x r _ ih=>
  intro p k zs ps h hz hp
  obtain⟨y,ys,rfl,hy,hys⟩:=denC_cons.1 hz
  cases k with
  | zero=>
   have e:Zfc (.cons x r) p 0=gN .un p (Zg0 x (Zfc r .nil 0)) (fun a q=>Zg0 a (Zfc r q 0)):=rfl
   rw[e] at h ⊢
   rcases Zbd (x:=gN RV.un p (Zg0 x (Zfc r .nil 0)) (fun a q=>Zg0 a (Zfc r q 0))) rfl (fun q=>h q.symm) with⟨rfl,e2⟩ | ⟨a,q,rfl,e2⟩
   ·rw[<- e2] at h ⊢
    obtain⟨_,h2,h3⟩:=Zc2 rfl h
    rw[h3,denC_nil.1 hp]
    obtain⟨_,h5⟩:=ih .nil 0 ys [] h2 hys (denC_nil.2 rfl)
    exact⟨.inl rfl,denC_cons.2 ⟨y,ys,by simp,hy,by simpa using h5⟩⟩
   ·rw[<- e2] at h ⊢
    obtain⟨_,h2,h3⟩:=Zc2 rfl h
    obtain⟨b,bs,rfl,hb,hbs⟩:=denC_cons.1 hp
    obtain⟨h4,h5⟩:=ih q 0 ys bs h2 hys hbs
    rw[h3]
    refine⟨.inr ?_,denC_cons.2 ⟨b,bs++ys.drop bs.length,by simp,hb,by simpa using h5⟩⟩
    rcases h4 with rfl | h4
    ·simp
    ·simp at h4 ⊢;omega
  | succ k=>
   have e:Zfc (.cons x r) p (k+1)=Zg0 x (Zfc r p k):=rfl
   rw[e] at h ⊢
   obtain⟨_,h2,h3⟩:=Zc2 rfl h
   obtain⟨h4,h5⟩:=ih p k ys ps h2 hys hp
   rw[h3]
   refine⟨h4.imp id (fun q=>by simp;omega),denC_cons.2 ⟨y,ys.take k++ps++ys.drop (k+ps.length),?_,hy,h5⟩⟩
   rw[show k+1+ps.length=(k+ps.length)+1 by omega]
   simp
 | _=>intro p k zs ps h;exact absurd rfl h
theorem Zxf (off:Nat):∀ (cs:List Value) (i:Nat) (C:Array Value),off+i+cs.length<=C.size ->
  ((cs.zipIdx i).foldl (fun cs (x:Value×Nat)=>cs.setIfInBounds (off+x.2) x.1) C).toList=C.toList.take (off+i)++cs++C.toList.drop (off+i+cs.length):=by
 intro cs
 induction cs with
 | nil=>intro i C _;simp
 | cons c r ih=>
  intro i C h
  simp only[List.length_cons] at h
  simp only[List.zipIdx_cons,List.foldl_cons]
  rw[ih (i+1) _ (by simp;omega)]
  have:=list_seg_step C.toList (off+i) c r (by simp;omega)
  simpa [Array.toList_setIfInBounds,Nat.add_assoc,Nat.add_comm,Nat.add_left_comm] using this
theorem Ybp {place:Nat->Option (Nat×Nat)} {C:Array Value} {i off sz:Nat} {u:Value} {rest:List (Nat×Value)} (hp:place i=some (off,sz)) (hs:u.cells.size=sz) (hf:u.cells.toList=[]∨off+u.cells.size<=C.size) (hoff:off<=C.size) :
  Instr.fill place C ((i,u)::rest)=Instr.fill place (C.toList.take off++u.cells.toList++C.toList.drop (off+u.cells.size)).toArray rest:=by
 have hfit:off+u.cells.size<=C.size:=by
  rcases hf with hf | hf
  ·have:u.cells.size=0:=by simpa using congrArg List.length hf
   omega
  ·exact hf
 have hno:¬ (C.size<off+u.cells.size):=by omega
 simp only[Instr.fill,hp,hs,ne_eq,not_true_eq_false,decide_false,Bool.false_or]
 rw[if_neg (by simp;omega)]
 congr 1
 apply Array.ext'
 have:=Zxf off u.cells.toList 0 C (by simpa using hfit)
 rw[<- Array.foldl_toList]
 simpa [hs] using this
section
variable {g fl n n' nt lim:Nat} {h h':HT} {t:FT} {a:Act} {o:Oper} {w:World} {v:RV} {ys:Ys} {cl:Cl'}
theorem Zpb {u:Value} (h:Zbb u=true):Zex u:=by
 refine(Zmt (ρ:=Rho.of fun _=>0) (m:=fun _=>none) (fun e=>?_)).2
 unfold Zbb at h
 rw[e] at h;cases h
theorem Zht {l:List Value} (h:l.all Zbb=true):∀ x∈l,Zex x:=fun x hx=>Zpb (List.all_eq_true.1 h x hx)
theorem Zjo (F:Fr P ρ m nt t a.tmps) {place:Nat->Option (Nat×Nat)}:∀ (ps:List (Nat×Operand)) (l:List (Nat×Nat×RO)) (z:RV) (C:Array Value),l.length=ps.length ->
  (∀ (k i:Nat) (x:Operand),ps[k]?=some (i,x)->∃ off sz:Nat,place i=some (off,sz)/\l[k]?=some (off,sz,opd P nt x)/\0<sz) ->
  Zeq t l z≠.un->Zbg ρ m z C.toList->(∀ x∈C.toList,Zex x) ->
  ∃ C':Array Value,Instr.fill place C (ps.map fun p=>(p.1,a.eval p.2))=some C'/\C'.size=C.size/\Zbg ρ m (Zeq t l z) C'.toList/\∀ x∈C'.toList,Zex x
 | [],[],z,C,_,_,_,hz,hc=>⟨C,rfl,rfl,hz,hc⟩
 | [],_::_,_,_,hl,_,_,_,_=>by simp at hl
 | _::_,[],_,_,hl,_,_,_,_=>by simp at hl
 | (i,x)::ps,y::l,z,C,hl,hp,hu,hz,hc=>by
  obtain⟨off,sz,h1,h2,h0⟩:=hp 0 i x rfl
  simp only[List.getElem?_cons_zero,Option.some.injEq] at h2
  subst h2
  have e:Zeq t ((off,sz,opd P nt x)::l) z=gC .un (ev t (opd P nt x)) (fun c=>gO .un (Zba c) fun m=>bf (Nat.beq m sz) (nU .un (Zfc z c off) (Zeq t l)) .un):=rfl
  rw[e] at hu
  have hne:ev t (opd P nt x)≠.un:=fun q=>hu (by rw[q];rfl)
  have dx:=Zai F x hne
  obtain⟨c,e2,hd,hcc⟩:∃ c,(gO RV.un (Zba c) fun m=>bf (Nat.beq m sz) (nU RV.un (Zfc z c off) (Zeq t l)) RV.un)=Zeq t ((off,sz,opd P nt x)::l) z/\Zbg ρ m c (a.eval x).cells.toList/\∀ y∈(a.eval x).cells.toList,Zex y:=by
   rw[e]
   rcases Yj3 (x:=gC RV.un (ev t (opd P nt x)) (fun c=>gO RV.un (Zba c) fun m=>bf (Nat.beq m sz) (nU RV.un (Zfc z c off) (Zeq t l)) RV.un)) rfl (fun q=>hu q.symm) with⟨c,hc1,e3⟩ | ⟨_,e3,hcell⟩
   ·rw[hc1] at dx
    obtain⟨cs,d1,d2,d3⟩:=dx
    exact⟨c,e3,by rw[d3];exact d1,by rw[d3];exact d2⟩
   ·have hx:=hcell ρ m (a.eval x) dx
    refine⟨_,e3,?_,?_⟩
    ·rw[Zdw hx];exact denC_cons.2 ⟨a.eval x,[],rfl,dx,denC_nil.2 rfl⟩
    ·rw[Zdw hx];simpa using hx
  rw[<- e] at hu
  rw[<- e2] at hu ⊢
  obtain⟨q,hq,e4⟩:=Za5 (x:=gO RV.un (Zba c) fun m=>bf (Nat.beq m sz) (nU RV.un (Zfc z c off) (Zeq t l)) RV.un) rfl (fun q=>hu q.symm)
  obtain⟨hb,e5⟩:=Zad e4 (fun q=>hu q.symm)
  obtain rfl:=Zak hb
  obtain⟨h3,e6⟩:=Za4 e5 (fun q=>hu q.symm)
  rw[<- e6] at hu ⊢
  have hlen:=Zhs q _ hq hd
  obtain⟨h4,h5⟩:=Zxh c off C.toList _ h3 hz hd
  have hfit:off+(a.eval x).cells.toList.length<=C.toList.length:=by
   rcases h4 with h4 | h4
   ·rw[h4] at hlen;simp at hlen;omega
   ·exact h4
  have hs:(a.eval x).cells.size=q:=by simpa using hlen
  obtain⟨C',g1,g2,g3,g4⟩:=Zjo F ps l (Zfc z c off) (C.toList.take off++(a.eval x).cells.toList++C.toList.drop (off+(a.eval x).cells.toList.length)).toArray (by simpa using hl)
   (fun k i x hk=>hp (k+1) i x hk) hu (by simpa using h5) (fun y hy=>by
    simp only[List.mem_append] at hy
    rcases hy with(hy | hy) | hy
    ·exact hc y (List.mem_of_mem_take hy)
    ·exact hcc y hy
    ·exact hc y (List.mem_of_mem_drop hy))
  refine⟨C',?_,?_,g3,g4⟩
  ·rw[List.map_cons,Ybp h1 hs (.inr (by simpa using hfit)) (by simp at hfit;omega)]
   simpa using g1
  ·rw[g2];simp at hfit ⊢;omega
end
end Go.Rn
namespace Go.Rn
variable {ρ:Rho} {m m':Mp} {P:Program}
theorem Zm5 {α β:Type} {f:α->Option β}:∀ {l:List α} {r:List β},l.mapM f=some r->r.length=l.length/\∀ (k:Nat) (x:α),l[k]?=some x->∃ y,f x=some y/\r[k]?=some y
 | [],r,h=>by simp at h;subst h;simp
 | x::l,r,h=>by
  rw[List.mapM_cons] at h
  cases hx:f x with
  | none=>rw[hx] at h;cases h
  | some y=>
   cases hl:l.mapM f with
   | none=>rw[hx,hl] at h;cases h
   | some q=>
    rw[hx,hl] at h
    cases h
    obtain⟨h1,h2⟩:=Zm5 hl
    refine⟨by simp[h1],fun k z hk=>?_⟩
    cases k with
    | zero=>simp at hk;subst hk;exact⟨y,hx,rfl⟩
    | succ k=>simpa using h2 k z (by simpa using hk)
section
variable {g fl n n' nt lim:Nat} {h h':HT} {t:FT} {a:Act} {o:Oper} {w:World} {v:RV} {ys:Ys} {cl:Cl'}
variable (F:Fr P ρ m nt t a.tmps) (s:Sim P ρ m g h w)
include F s
theorem Yq6 {ty:TypeId} {ps:Array (Nat×Operand)} {z:Value} {l:List (Nat×Nat×RO)} (ho:o.op=.build ty ps) (hz:Zct P ty=some z) (hp:Zlc P ty ps.toList nt=some l) (hk:z.cells.toList.all Zbb=true)
  (e:step (.bd (chain z.cells.toList) l) ys cl fl lim t h n=.ok v h' n'):Ok1 P ρ g fl o a m w h n v h' n':=by
 have e1:nU (SR.bad [5]) (Zeq t l (chain z.cells.toList)) (fun c=>SR.ok (.agg c) h n)=.ok v h' n':=e
 obtain⟨hu,e2⟩:=Za4 e1 (by simp)
 cases e2
 have hzc:=Zht hk
 obtain⟨it,hit,hiz⟩:∃ it,P.info? ty=some it/\it.zero=some z:=by
  unfold Zct at hz
  cases hi:P.info? ty with
  | none=>rw[hi] at hz;cases hz
  | some it=>rw[hi] at hz;exact⟨it,rfl,hz⟩
 have fin:∀ (C':Array Value),P.built ty (ps.toList.map fun p=>(p.1,a.eval p.2))=some C'->Zbg ρ m (Zeq t l (chain z.cells.toList)) C'.toList->(∀ x∈C'.toList,Zex x)->Ok1 P ρ g fl o a m w h n (.agg (Zeq t l (chain z.cells.toList))) h n:=fun C' hb hd hc=>by
  refine Ok1.quiet (u:=.agg C') s ?_ ⟨C'.toList,hd,hc,rfl⟩
  have hr:=run_build w ty (ps.map fun (i,x)=>(i,a.eval x)) C' (by simpa using hb)
  simp only[execOp,ho,Sem.run_bind,hr,Result.andThen_ok]
  rfl
 unfold Zlc at hp
 split at hp
 ·rename_i fs hus
  cases hpl:fs.toList.mapM (fun f=>(P.info? f.type).map fun i=>(f.offset,i.size)) with
  | none=>rw[hpl] at hp;cases hp
  | some pl=>
   rw[hpl] at hp
   obtain⟨h1,h2⟩:=Zm5 hp
   obtain⟨C',g1,g2,g3,g4⟩:=Zjo F (place:=(pl.toArray[·]?)) ps.toList l (chain z.cells.toList) z.cells h1 (fun k i x hkx=>by
    obtain⟨y,hy,hly⟩:=h2 k (i,x) hkx
    cases hq:pl[i]? with
    | none=>simp[hq] at hy
    | some q=>
     simp[hq] at hy
     obtain⟨h0,rfl⟩:=hy
     exact⟨q.1,q.2,by simp[hq],hly,h0⟩) hu (Zdv _).1 hzc
   refine fin C' ?_ g3 g4
   simp only[Program.built,hit,hus,hiz,hpl]
   exact g1
 ·rename_i k el hua
  cases hie:P.info? el with
  | none=>rw[hie] at hp;cases hp
  | some ie=>
   rw[hie] at hp
   obtain⟨h1,h2⟩:=Zm5 hp
   obtain⟨C',g1,g2,g3,g4⟩:=Zjo F (place:=fun i=>some (i*ie.size,ie.size)) ps.toList l (chain z.cells.toList) z.cells h1 (fun k i x hkx=>by
    obtain⟨y,hy,hly⟩:=h2 k (i,x) hkx
    by_cases h0:0<ie.size
    ·simp[h0] at hy
     subst hy
     exact⟨i*ie.size,ie.size,rfl,hly,h0⟩
    ·simp[h0] at hy) hu (Zdv _).1 hzc
   refine fin C' ?_ g3 g4
   simp only[Program.built,hit,hua,hiz,hie]
   exact g1
 ·cases hp
theorem Yq5 (hf:fl<=n) {ty el:TypeId} {len sz:Nat} {ps:Array (Nat×Operand)} {z:Value} (ho:o.op=.buildSlice ty len ps) (hu:P.underlying ty=some (.slice el)) (hs:Zed P el=some sz) (hz:Zct P el=some z) (h0:0<sz) (hlen:len*sz<=65536) (hzs:z.cells.size=sz) (hk:z.cells.toList.all Zbb=true)
  (e:step (.bs (chain ((List.range (len*sz)).map fun i=>z.cells[i % sz]!)) len (ps.toList.map fun p=>(p.1*sz,sz,opd P nt p.2))) ys cl fl lim t h n=.ok v h' n'):Ok1 P ρ g fl o a m w h n v h' n':=by
 have e1:nU (SR.bad [6]) (Zeq t (ps.toList.map fun p=>(p.1*sz,sz,opd P nt p.2)) (chain ((List.range (len*sz)).map fun i=>z.cells[i % sz]!))) (fun c=>Zja h n c (.sl n 0 len len))=.ok v h' n':=e
 obtain⟨hne,e2⟩:=Za4 e1 (by simp)
 have hzc:=Zht hk
 have hrow:∀ x∈((List.range (len*sz)).map fun i=>z.cells[i % sz]!),Zex x:=by
  intro x hx
  obtain⟨i,_,rfl⟩:=List.mem_map.1 hx
  have hi:i % sz<z.cells.size:=by rw[hzs];exact Nat.mod_lt _ h0
  rw[getElem!_pos z.cells (i % sz) hi]
  exact hzc _ (by simp)
 obtain⟨C',g1,g2,g3,g4⟩:=Zjo F (place:=fun i=>some (i*sz,sz)) ps.toList (ps.toList.map fun p=>(p.1*sz,sz,opd P nt p.2)) (chain ((List.range (len*sz)).map fun i=>z.cells[i % sz]!)) ((List.range (len*sz)).map fun i=>z.cells[i % sz]!).toArray (by simp) (fun k i x hkx=>⟨i*sz,sz,rfl,by simp[hkx],h0⟩) hne (Zdv _).1 (by simpa using hrow)
 obtain⟨rfl,rfl,hab,htr⟩:=Zji s hf g3 (fun k u hk _=>g4 u (List.mem_of_getElem? hk)) e2 el
 refine⟨hab,fun hfr K Q hK=>?_⟩
 have hn:=hfr n (Nat.le_refl _) (Nat.lt_succ_self _)
 refine Zc9 (w':=w.alloc (.cells C' el (0,0))) (u:=.slice (some ⟨w.heap.size,0,none⟩) len len) ?_ (hK _ _ _ (htr hn) ⟨w.heap.size,0,C'.toList.length,Zao _ _,Nat.le_refl _,rfl⟩)
 have hbig:¬ (16777216<len*sz):=by omega
 have g1':Instr.fill (fun i=>some (i*sz,sz)) ((List.range (len*sz)).map fun i=>z.cells[i % sz]!).toArray (ps.toList.map fun p=>(p.1,a.eval p.2))=some C':=g1
 have hps:(ps.map fun x=>(x.1,a.eval x.2)).toList=ps.toList.map fun p=>(p.1,a.eval p.2):=by simp
 by_cases q:len*sz=0
 ·have e0:(Array.map (fun _=>(default:Value)) (Array.range (len*sz)))=((List.range (len*sz)).map fun i=>z.cells[i % sz]!).toArray:=by simp[q]
  simp[execOp,ho,Instr.buildSlice,run_underlying hu,Za9 hs,hbig,newRow]
  rw[if_pos q,e0,g1']
  simp
 ·have e1:Array.map (fun x=>z.cells[x % z.cells.size]!) (Array.range (len*sz))=((List.range (len*sz)).map fun i=>z.cells[i % sz]!).toArray:=by
   rw[hzs];apply Array.ext';simp
  simp[execOp,ho,Instr.buildSlice,run_underlying hu,Za9 hs,hbig,newRow]
  rw[if_neg q,Zdx hz]
  simp only[Result.andThen_ok]
  rw[e1,g1']
  simp
end
end Go.Rn
namespace Go.Rn
variable {ρ:Rho} {m m':Mp} {P:Program}
section
variable {g fl n n' nt lim:Nat} {h h':HT} {t:FT} {a:Act} {o:Oper} {w:World} {v:RV} {ys:Ys} {cl:Cl'}
def Bnd (v:Option Value) (d q:Nat):Prop:=(v=none/\q=d)∨∃ j,v=some (.int j q)
theorem Zgs (F:Fr P ρ m nt t a.tmps) {x:Option Operand} {d q:Nat} (e:Zjt t (Zks P nt x) d=some q):Bnd (x.map a.eval) d q:=by
 unfold Zjt at e
 cases x with
 | none=>exact .inl ⟨rfl,by cases e;rfl⟩
 | some x=>
  have e1:gI none (ev t (opd P nt x)) (fun _ n=>bf (Zlx n) (some (Zcm n)) none)=some q:=e
  obtain⟨j,z,hz,e2⟩:=Zg6 e1 (by simp)
  obtain⟨h1,e3⟩:=Zad e2 (by simp)
  cases e3
  have dx:=Zai F x (by rw[hz];simp)
  rw[hz] at dx
  refine .inr ⟨j,?_⟩
  show some (a.eval x)=_
  rw[show a.eval x=.int j z from dx,<- Zcq h1]
theorem Zfn {j:IntKind} {q y:Nat} (h:q<=y) (code:BoundsCode) (w:World):(Instr.sliceBound (.int j q) y code).run P w=.ok q w:=by
 simp[Instr.sliceBound,asIntOf,h]
theorem Zf6 {isSl:Bool} {len cap l hi M:Nat} {lo hv mv:Option Value} (hl:Bnd lo 0 l) (hh:Bnd hv len hi) (hm:(mv=none/\M=cap)∨((∃ j,mv=some (.int j M))/\hv.isSome=true)) (h1:l<=hi) (h2:hi<=M) (h3:M<=cap) (w:World) :
  (Instr.sliceBounds isSl len cap lo hv mv).run P w=.ok (l,hi,M) w:=by
 unfold Instr.sliceBounds
 rcases hm with⟨rfl,rfl⟩ | ⟨⟨j,rfl⟩,hs⟩
 ·rcases hh with⟨rfl,rfl⟩ | ⟨j2,rfl⟩<;>rcases hl with⟨rfl,rfl⟩ | ⟨j3,rfl⟩<;>simp[Zfn h1,Zfn h2]
 ·rcases hh with⟨rfl,rfl⟩ | ⟨j2,rfl⟩
  ·cases hs
  ·rcases hl with⟨rfl,rfl⟩ | ⟨j3,rfl⟩<;>simp[Zfn h1,Zfn h2,Zfn h3]
theorem Zqy {es b o lo hi M B O Z:Nat} {r:RV} (hm:m b=some (B,O,Z)) (e:slK es b o lo hi M=r) (hr:r≠.un):lo<=hi/\hi<=M/\den ρ m r (.slice (some (if M=lo then ⟨B,O+o,none⟩ else (⟨B,O+o,none⟩:Addr).add (lo*es))) (hi-lo) (M-lo)):=by
 unfold slK at e
 obtain⟨h1,e2⟩:=Zad e hr.symm
 obtain⟨h2,e3⟩:=Zad e2 hr.symm
 have g1:=Zam h1
 have g2:=Zam h2
 refine⟨g1,g2,?_⟩
 rcases Za0 e3 with⟨h3,e4⟩ | ⟨h3,e4⟩
 ·rw[<- e4,if_pos (Zak h3)]
  exact⟨B,O,Z,hm,by show hi-lo<=M-lo;omega,rfl⟩
 ·have hne:M≠lo:=fun q=>by rw[q] at h3;simp at h3
  rw[<- e4,if_neg hne,Zdd]
  exact⟨B,O,Z,hm,by show hi-lo<=M-lo;omega,by show Value.slice (some ⟨B,O+o+lo*es,none⟩) _ _=Value.slice (some ⟨B,O+(o+lo*es),none⟩) _ _;rw[Nat.add_assoc];rfl⟩
theorem Ycz {es lo hi:Nat} {mx:Option Nat} {x r:RV} {u:Value} (hd:den ρ m x u) (e:slV es x lo hi mx=r) (hr:r≠.un) :
  ∃ p len cap M,u=.slice p len cap/\Zcs x=some len/\lo<=hi/\hi<=M/\M<=cap/\((mx=none/\M=cap)∨mx=some M)/\den ρ m r (.slice (if M=lo then p else p.map (·.add (lo*es))) (hi-lo) (M-lo)):=by
 unfold slV at e
 rcases Zif e hr.symm with⟨rfl,e2⟩ | ⟨b,q,l,c,rfl,e2⟩ | ⟨b,q,l,f,rfl,e2⟩ | ⟨b,f,rfl,e2⟩
 ·obtain⟨h1,e3⟩:=Zad e2 hr.symm
  obtain⟨h2,e4⟩:=Zad e3 hr.symm
  obtain rfl:=Zak h1
  obtain rfl:=Zak h2
  have hx:u=.slice none 0 0:=hd
  rcases Znw e4 with⟨M,rfl,e5⟩ | ⟨rfl,e5⟩
  ·obtain⟨h3,e6⟩:=Zad e5 hr.symm
   obtain rfl:=Zak h3
   exact⟨none,0,0,0,hx,rfl,Nat.le_refl _,Nat.le_refl _,Nat.le_refl _,.inr rfl,by rw[<- e6];rfl⟩
  ·exact⟨none,0,0,0,hx,rfl,Nat.le_refl _,Nat.le_refl _,Nat.le_refl _,.inl ⟨rfl,rfl⟩,by rw[<- e5];rfl⟩
 ·obtain⟨B,O,Z,hm,hlc,hx⟩:=hd
  rcases Znw e2 with⟨M,rfl,e5⟩ | ⟨rfl,e5⟩
  ·obtain⟨h3,e6⟩:=Zad e5 hr.symm
   obtain⟨g1,g2,g3⟩:=Zqy (ρ:=ρ) hm e6 hr
   refine⟨_,l,c,M,hx,rfl,g1,g2,Zam h3,.inr rfl,?_⟩
   split at g3<;>rename_i q
   ·rw[if_pos q];exact g3
   ·rw[if_neg q];exact g3
  ·obtain⟨g1,g2,g3⟩:=Zqy (ρ:=ρ) hm e5 hr
   refine⟨_,l,c,c,hx,rfl,g1,g2,Nat.le_refl _,.inl ⟨rfl,rfl⟩,?_⟩
   split at g3<;>rename_i q
   ·rw[if_pos q];exact g3
   ·rw[if_neg q];exact g3
 ·obtain⟨h1,e3⟩:=Zad e2 hr.symm
  obtain rfl:es=f % 1048576:=Zak h1
  obtain⟨B,O,Z,c,hm,hlc,hZ,hx⟩:=hd
  rcases Znw e3 with⟨M,rfl,e5⟩ | ⟨rfl,e5⟩
  ·obtain⟨h3,e6⟩:=Zad e5 hr.symm
   obtain⟨g1,g2,g3⟩:=Zqy (ρ:=ρ) hm e6 hr
   refine⟨_,l,c,M,hx,rfl,g1,g2,Nat.le_trans (Zam h3) hlc,.inr rfl,?_⟩
   split at g3<;>rename_i q
   ·rw[if_pos q];exact g3
   ·rw[if_neg q];exact g3
  ·unfold slU at e5
   obtain⟨h2,e6⟩:=Zad e5 hr.symm
   obtain⟨h3,e7⟩:=Zad e6 hr.symm
   have g2:=Zam h2
   have g3:hi<=l+f / 1048576:=Zam h3
   refine⟨_,l,c,c,hx,rfl,g2,Nat.le_trans g3 hlc,Nat.le_refl _,.inl ⟨rfl,rfl⟩,?_⟩
   rcases Za0 e7 with⟨h4,e8⟩ | ⟨h4,e8⟩
   ·obtain rfl:=Zak h4
    rw[<- e8]
    refine⟨B,O,Z,c,hm,by show hi+(f % 1048576+1048576*(l+f / 1048576-hi)) / 1048576<=c;omega,by show O+q+c*((f % 1048576+1048576*(l+f / 1048576-hi)) % 1048576)=Z;rw[Nat.add_mul_mod_self_left,Nat.mod_mod];exact hZ,?_⟩
    split
    ·simp_all
    ·simp[Addr.add]
   ·have hlo:lo≠0:=fun q=>by rw[q] at h4;simp at h4
    rcases Za0 e8 with⟨h5,e9⟩ | ⟨h5,e9⟩
    ·have g5:lo+1<=l+f / 1048576:=Zam h5
     rw[<- e9,if_neg (by omega)]
     refine⟨B,O,Z,c-lo,hm,by show hi-lo+(f % 1048576+1048576*(l+f / 1048576-hi)) / 1048576<=c-lo;omega,?_,?_⟩
     ·show O+(q+lo*(f % 1048576))+(c-lo)*((f % 1048576+1048576*(l+f / 1048576-hi)) % 1048576)=Z
      rw[Nat.add_mul_mod_self_left,Nat.mod_mod,<- hZ,Nat.sub_mul]
      have:lo*(f % 1048576)<=c*(f % 1048576):=Nat.mul_le_mul_right _ (by omega)
      omega
     ·simp only[Option.map_some,Zdd]
      show Value.slice (some ⟨B,O+q+lo*(f % 1048576),none⟩) _ _=Value.slice (some ⟨B,O+(q+lo*(f % 1048576)),none⟩) _ _
      rw[Nat.add_assoc];rfl
    ·have g5:l+f / 1048576<=lo:=by
      rcases Nat.lt_or_ge lo (l+f / 1048576) with q | q
      ·rw[show Nat.ble (Nat.succ lo) (Nat.add l (Nat.div f 1048576))=true from Zgv q] at h5;cases h5
      ·exact q
     have hlo2:hi=lo:=by omega
     subst hlo2
     rw[<- e9]
     by_cases hcl:c=hi
     ·rw[if_pos hcl]
      exact⟨B,O,Z,⟨B,O+q,none⟩,0,hm,.inl rfl,by simp[hcl]⟩
     ·rw[if_neg hcl]
      refine⟨B,O,Z,⟨B,O+q+hi*(f % 1048576),none⟩,c-hi,hm,.inr ⟨_,rfl,?_⟩,by simp[Zdd]⟩
      rw[<- hZ,Nat.sub_mul]
      have:hi*(f % 1048576)<=c*(f % 1048576):=Nat.mul_le_mul_right _ (by omega)
      omega
 ·obtain⟨h1,e3⟩:=Zad e2 hr.symm
  obtain rfl:=Zak h1
  obtain⟨h2,e4⟩:=Zad e3 hr.symm
  obtain⟨h3,e5⟩:=Zad e4 hr.symm
  obtain rfl:=Zak h2
  obtain rfl:=Zak h3
  obtain⟨B,O,Z,O',c,hm,hZ,hx⟩:=hd
  rcases Znw e5 with⟨M,rfl,e6⟩ | ⟨rfl,e6⟩
  ·exact absurd e6.symm hr
  ·rw[<- e6]
   refine⟨_,0,c,c,hx,rfl,Nat.le_refl _,Nat.zero_le _,Nat.le_refl _,.inl ⟨rfl,rfl⟩,B,O,Z,O',c,hm,hZ,?_⟩
   split
   ·simp_all
   ·simp[Addr.add]
variable (F:Fr P ρ m nt t a.tmps) (s:Sim P ρ m g h w)
include F s
theorem Yqc {ty el:TypeId} {x:Operand} {lo hi mx:Option Operand} {sz:Nat} (ho:o.op=.slice ty x lo hi mx) (hu:P.underlying ty=some (.slice el)) (hs:Zed P el=some sz) (hmx:mx.isSome=true->hi.isSome=true)
  (e:step (.sc sz (opd P nt x) (Zks P nt lo) (Zks P nt hi) (Zks P nt mx)) ys cl fl lim t h n=.ok v h' n'):Ok1 P ρ g fl o a m w h n v h' n':=by
 have e1:gO (SR.bad [35]) (Zcs (ev t (opd P nt x))) (fun l=>gO (SR.bad [36]) (Zjt t (Zks P nt lo) 0) fun a=>gO (SR.bad [37]) (Zjt t (Zks P nt hi) l) fun b=>
  gO (okV (slV sz (ev t (opd P nt x)) a b none) h n 38) (Zks P nt mx) fun m=>gO (SR.bad [39]) (Zjt t (some m) 0) fun m=>okV (slV sz (ev t (opd P nt x)) a b (some m)) h n 38)=.ok v h' n':=e
 obtain⟨l,hl,e2⟩:=Za5 e1 (by simp)
 obtain⟨p,hp,e3⟩:=Za5 e2 (by simp)
 obtain⟨q,hq,e4⟩:=Za5 e3 (by simp)
 have dx:=Zai F x (fun q=>by rw[q] at hl;cases hl)
 have bl:=Zgs F hp
 have bh:=Zgs F hq
 rcases Znw e4 with⟨mo,hmo,e5⟩ | ⟨hmo,e5⟩
 ·cases mx with
  | none=>cases hmo
  | some y=>
   cases hmo
   obtain⟨M,hM,e6⟩:=Za5 e5 (by simp)
   obtain⟨hr,rfl,rfl,rfl⟩:=Zbx e6
   obtain⟨pp,len,cap,M',hx,hsl,g1,g2,g3,g4,g5⟩:=Ycz dx rfl hr
   rw[hl] at hsl
   cases hsl
   have hMM:M'=M:=by
    rcases g4 with⟨q,_⟩ | q
    ·cases q
    ·cases q;rfl
   subst hMM
   have bm:=Zgs F (x:=some y) hM
   have bm':∃ j,(some y).map a.eval=some (.int j M'):=by
    rcases bm with⟨q,_⟩ | q
    ·cases q
    ·exact q
   have hb:=Zf6 (P:=P) (isSl:=true) bl bh (.inr ⟨bm',by simpa using hmx rfl⟩) g1 g2 g3 w
   exact Ok1.quiet (u:=.slice (if M'=p then pp else pp.map (·.add (p*sz))) (q-p) (M'-p)) s (by
    have hb':=hb
    simp only[Option.map_some] at hb'
    simp[execOp,ho,Instr.sliceAt,Instr.slice,run_underlying hu,hx,hb',Za9 hs]) g5
 ·cases mx with
  | some y=>cases hmo
  | none=>
   obtain⟨hr,rfl,rfl,rfl⟩:=Zbx e5
   obtain⟨pp,len,cap,M',hx,hsl,g1,g2,g3,g4,g5⟩:=Ycz dx rfl hr
   rw[hl] at hsl
   cases hsl
   have hMM:M'=cap:=by
    rcases g4 with⟨_,q⟩ | q
    ·exact q
    ·cases q
   subst hMM
   have hb:=Zf6 (P:=P) (isSl:=true) bl bh (.inl ⟨rfl,rfl⟩) g1 g2 g3 w
   exact Ok1.quiet (u:=.slice (if M'=p then pp else pp.map (·.add (p*sz))) (q-p) (M'-p)) s (by
    simp[execOp,ho,Instr.sliceAt,Instr.slice,run_underlying hu,hx,hb,Za9 hs]) g5
theorem Yqb {ty:TypeId} {x:Operand} {lo hi mx:Option Operand} (ho:o.op=.slice ty x lo hi mx) (hu:P.underlying ty=some .string) (hmx:mx.isNone=true)
  (e:step (.ss (opd P nt x) (Zks P nt lo) (Zks P nt hi)) ys cl fl lim t h n=.ok v h' n'):Ok1 P ρ g fl o a m w h n v h' n':=by
 have e1:gS (SR.bad [40]) (ev t (opd P nt x)) (fun l=>gO (SR.bad [41]) (Zjt t (Zks P nt lo) 0) fun a=>gO (SR.bad [42]) (Zjt t (Zks P nt hi) l.length) fun b=>
  bf (Nat.ble a b) (bf (Nat.ble b l.length) (SR.ok (.s ((l.take b).drop a)) h n) (SR.bad [43])) (SR.bad [44]))=.ok v h' n':=e
 obtain⟨l,hl,e2⟩:=Zs0 e1 (by simp)
 obtain⟨p,hp,e3⟩:=Za5 e2 (by simp)
 obtain⟨q,hq,e4⟩:=Za5 e3 (by simp)
 obtain⟨h1,e5⟩:=Zad e4 (by simp)
 obtain⟨h2,e6⟩:=Zad e5 (by simp)
 cases e6
 have dx:=Zai F x (by rw[hl];simp)
 rw[hl] at dx
 obtain⟨hx,h256⟩:=dx
 have hmn:mx=none:=by simpa using hmx
 have hb:=Zf6 (P:=P) (isSl:=false) (cap:=l.length) (Zgs F hp) (Zgs F hq) (.inl ⟨rfl,rfl⟩) (Zam h1) (Zam h2) (Nat.le_refl _) w
 have hsz:(⟨(l.map UInt8.ofNat).toArray⟩:ByteArray).size=l.length:=by show(l.map UInt8.ofNat).toArray.size=_;simp
 refine Ok1.quiet (u:=.string ⟨(((l.take q).drop p).map UInt8.ofNat).toArray⟩) s ?_ ⟨rfl,fun y hy=>h256 y (List.mem_of_mem_take (List.mem_of_mem_drop hy))⟩
 have hext:=ByteArray.extract_mk (l.map UInt8.ofNat) p q
 simp[execOp,ho,hmn,Instr.sliceAt,Instr.slice,run_underlying hu,hx,hsz,hb,hext,List.drop_take]
theorem Yqd {ty el:TypeId} {x:Operand} {lo hi mx:Option Operand} {sz k:Nat} (ho:o.op=.slice ty x lo hi mx) (hu:P.underlying ty=some (.array k el)) (hs:Zed P el=some sz) (hmx:mx.isNone=true)
  (e:step (.sa k sz (opd P nt x) (Zks P nt lo) (Zks P nt hi)) ys cl fl lim t h n=.ok v h' n'):Ok1 P ρ g fl o a m w h n v h' n':=by
 have e1:gP (SR.bad [45]) (ev t (opd P nt x)) (fun b o=>gO (SR.bad [46]) (Zjt t (Zks P nt lo) 0) fun a=>gO (SR.bad [47]) (Zjt t (Zks P nt hi) k) fun e=>okV (slK sz b o a e k) h n 48)=.ok v h' n':=e
 obtain⟨b,c,hb,e2⟩:=Znv e1 (by simp)
 obtain⟨p,hp,e3⟩:=Za5 e2 (by simp)
 obtain⟨q,hq,e4⟩:=Za5 e3 (by simp)
 obtain⟨hr,rfl,rfl,rfl⟩:=Zbx e4
 have dx:=Zai F x (by rw[hb];simp)
 rw[hb] at dx
 obtain⟨B,O,Z,hm,hx⟩:=dx
 obtain⟨g1,g2,g3⟩:=Zqy (ρ:=ρ) hm rfl hr
 have hmn:mx=none:=by simpa using hmx
 have hbr:=Zf6 (P:=P) (isSl:=false) (cap:=k) (Zgs F hp) (Zgs F hq) (.inl ⟨rfl,rfl⟩) g1 g2 (Nat.le_refl _) w
 refine Ok1.quiet (u:=.slice (some (if k=p then ⟨B,O+c,none⟩ else (⟨B,O+c,none⟩:Addr).add (p*sz))) (q-p) (k-p)) s ?_ g3
 simp[execOp,ho,hmn,Instr.sliceAt,run_underlying hu,hx,Instr.sureAddr,hbr,Za9 hs]
omit F s in
theorem Zsf (l:List Value) (_hl:0<l.length):∀ (c k:Nat),k<c*l.length->(List.replicate c l).flatten[k]?=l[k % l.length]?:=by
 intro c
 induction c with
 | zero=>intro k hk;omega
 | succ c ih=>
  intro k hk
  rw[List.replicate_succ,List.flatten_cons]
  by_cases hlt:k<l.length
  ·rw[List.getElem?_append_left hlt,Nat.mod_eq_of_lt hlt]
  ·rw[List.getElem?_append_right (by omega),ih (k-l.length) (by rw[Nat.succ_mul] at hk;omega),<- Nat.mod_eq_sub_mod (by omega)]
theorem Yqj (hf:fl<=n) {ty el:TypeId} {x y:Operand} {i:TypeInfo} {z:Value} (ho:o.op=.makeSlice ty x y) (hu:P.underlying ty=some (.slice el)) (hi:P.info? el=some i) (hz:i.zero=some z) (h0:0<i.size) (hby:i.bytes<=65536) (hzs:z.cells.size=i.size) (hk:z.cells.toList.all Zbb=true)
  (e:step (.ms (chain z.cells.toList) (opd P nt x) (opd P nt y)) ys cl fl lim t h n=.ok v h' n'):Ok1 P ρ g fl o a m w h n v h' n':=by
 have e1:gI (SR.bad [28]) (ev t (opd P nt x)) (fun j a=>gI (SR.bad [29]) (ev t (opd P nt y)) fun k b=>
  bf (bf (Zt3 j) (Zt3 k) false) (bf (Zlx a) (bf (Zlx b) (bf (Nat.ble (Zcm a) (Zcm b)) (bf (Nat.ble (Zcm b) 65536) (Zja h n (rep (chain z.cells.toList) (Zcm b)) (.sl n 0 (Zcm a) (Zcm b))) (SR.bad [30])) (SR.bad [31])) (SR.bad [32])) (SR.bad [33])) (SR.bad [34]))=.ok v h' n':=e
 obtain⟨j,p,hp,e2⟩:=Zg6 e1 (by simp)
 obtain⟨k,q,hq,e3⟩:=Zg6 e2 (by simp)
 obtain⟨hjk,e4⟩:=Zad e3 (by simp)
 obtain⟨hj,hk2⟩:=Zad hjk (by simp)
 obtain rfl:=Zmq hj
 obtain rfl:=Zmq hk2
 obtain⟨h1,e5⟩:=Zad e4 (by simp)
 obtain⟨h2,e6⟩:=Zad e5 (by simp)
 obtain⟨h3,e7⟩:=Zad e6 (by simp)
 obtain⟨h4,e8⟩:=Zad e7 (by simp)
 have dx:=Zai F x (by rw[hp];simp)
 have dy:=Zai F y (by rw[hq];simp)
 rw[hp] at dx
 rw[hq] at dy
 have hx:a.eval x=.int .i64 (Zcm p):=by rw[show a.eval x=.int .i64 p from dx,<- Zcq h1]
 have hy:a.eval y=.int .i64 (Zcm q):=by rw[show a.eval y=.int .i64 q from dy,<- Zcq h2]
 have g3:=Zam h3
 have g4:=Zam h4
 generalize Zcm p=l at *
 generalize Zcm q=c at *
 have hzc:=Zht hk
 have hne:rep (chain z.cells.toList) c≠.un:=fun q=>by rw[q] at e8;cases e8
 have hd:=Zuo (ρ:=ρ) (m:=m) (Zdv z.cells.toList).1 c hne
 have hcell:∀ x∈(List.replicate c z.cells.toList).flatten,Zex x:=by
  intro x hx
  obtain⟨r,hr,hxr⟩:=List.mem_flatten.1 hx
  rw[List.eq_of_mem_replicate hr] at hxr
  exact hzc x hxr
 obtain⟨rfl,rfl,hab,htr⟩:=Zji s hf hd (fun k u hk _=>hcell u (List.mem_of_getElem? hk)) e8 el
 refine⟨hab,fun hfr K Q hK=>?_⟩
 have hn:=hfr n (Nat.le_refl _) (Nat.lt_succ_self _)
 refine Zc9 (w':=w.alloc (.cells (List.replicate c z.cells.toList).flatten.toArray el (0,0))) (u:=.slice (some ⟨w.heap.size,0,none⟩) l c) ?_ (hK _ _ _ (htr hn) ⟨w.heap.size,0,_,Zao _ _,g3,rfl⟩)
 have w1:IntKind.i64.wrap (l:Int)=l:=IntWalk.i64_in _ (by omega)
 have w2:IntKind.i64.wrap (c:Int)=c:=IntWalk.i64_in _ (by omega)
 have hrow:madeCells z.cells (c*i.size)=(List.replicate c z.cells.toList).flatten.toArray:=by
  unfold madeCells
  apply Array.ext'
  apply List.ext_getElem?
  intro k
  have hlen:(List.replicate c z.cells.toList).flatten.length=c*i.size:=by simp[List.length_flatten,hzs]
  by_cases hk:k<c*i.size
  ·have hmod:k % i.size<z.cells.size:=by rw[hzs];exact Nat.mod_lt _ h0
   have:=Zsf z.cells.toList (by simp;omega) c k (by simpa [hzs] using hk)
   simp only[Array.length_toList,hzs] at this
   show _=(List.replicate c z.cells.toList).flatten[k]?
   rw[this]
   simp[hk,hzs,getElem!_pos z.cells (k % i.size) hmod]
  ·rw[List.getElem?_eq_none (by simp;omega),List.getElem?_eq_none (by show(List.replicate c z.cells.toList).flatten.length<=k;rw[hlen];omega)]
 have hby2:(i.bytes:Int)*(c:Int)<=281474976710656:=by
  have h1:i.bytes*c<=4294967296:=Nat.mul_le_mul hby g4
  have h2:((i.bytes*c:Nat):Int)<=4294967296:=Int.ofNat_le.2 h1
  rw[Int.natCast_mul] at h2
  omega
 have hr:=run_make (P:=P) w ty el i z hu hi hz .i64 .i64 l c (by omega) (by omega) hby2 (by omega)
 simp only[Int.toNat_natCast] at hr
 rw[hrow] at hr
 simp[execOp,ho,hx,hy,hr]
end
end Go.Rn
