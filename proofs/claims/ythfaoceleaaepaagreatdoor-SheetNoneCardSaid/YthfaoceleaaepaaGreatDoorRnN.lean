/-
  One text of a symbolic evaluator over the model, shown sound once for every program: no statement is claimed here.
-/
import Derived.Test.YthfaoceleaaepaaGreatDoorRnK
import Derived.Laws.MakeOwn
namespace Go.Rn
variable {ρ:Nat→Int} {m m':Mp} {P:Program}
/-! ### laying parts over a chain -/
theorem patch_len {z:RV}:∀ (p:RV) (k:Nat) (zs ps:List Value),patch z p k ≠ .un→denC ρ m z zs→denC ρ m p ps→(ps=[] ∨ k + ps.length≤zs.length)∧denC ρ m (patch z p k) (zs.take k ++ ps ++ zs.drop (k + ps.length)):=by
 induction z with
 | nil=>
  intro p k zs ps h hz hp
  have e:patch .nil p k=gN .un p .nil (fun _ _=>.un):=rfl
  rw [e] at h ⊢
  rcases gN_ok (x:=gN RV.un p RV.nil (fun _ _=>RV.un)) rfl (fun q=>h q.symm) with ⟨rfl,e2⟩ | ⟨_,_,_,e2⟩
  ·rw [← e2,denC_nil.1 hz,denC_nil.1 hp]
   exact ⟨.inl rfl,denC_nil.2 (by simp)⟩
  ·exact absurd e2.symm h
 | cons x r _ ih=>
  intro p k zs ps h hz hp
  obtain ⟨y,ys,rfl,hy,hys⟩:=denC_cons.1 hz
  cases k with
  | zero=>
   have e:patch (.cons x r) p 0=gN .un p (kons x (patch r .nil 0)) (fun a q=>kons a (patch r q 0)):=rfl
   rw [e] at h ⊢
   rcases gN_ok (x:=gN RV.un p (kons x (patch r .nil 0)) (fun a q=>kons a (patch r q 0))) rfl (fun q=>h q.symm) with ⟨rfl,e2⟩ | ⟨a,q,rfl,e2⟩
   ·rw [← e2] at h ⊢
    obtain ⟨_,h2,h3⟩:=kons_ok rfl h
    rw [h3,denC_nil.1 hp]
    obtain ⟨_,h5⟩:=ih .nil 0 ys [] h2 hys (denC_nil.2 rfl)
    exact ⟨.inl rfl,denC_cons.2 ⟨y,ys,by simp,hy,by simpa using h5⟩⟩
   ·rw [← e2] at h ⊢
    obtain ⟨_,h2,h3⟩:=kons_ok rfl h
    obtain ⟨b,bs,rfl,hb,hbs⟩:=denC_cons.1 hp
    obtain ⟨h4,h5⟩:=ih q 0 ys bs h2 hys hbs
    rw [h3]
    refine ⟨.inr ?_,denC_cons.2 ⟨b,bs ++ ys.drop bs.length,by simp,hb,by simpa using h5⟩⟩
    rcases h4 with rfl | h4
    ·simp
    ·simp at h4 ⊢; omega
  | succ k=>
   have e:patch (.cons x r) p (k + 1)=kons x (patch r p k):=rfl
   rw [e] at h ⊢
   obtain ⟨_,h2,h3⟩:=kons_ok rfl h
   obtain ⟨h4,h5⟩:=ih p k ys ps h2 hys hp
   rw [h3]
   refine ⟨h4.imp id (fun q=>by simp; omega),denC_cons.2 ⟨y,ys.take k ++ ps ++ ys.drop (k + ps.length),?_,hy,h5⟩⟩
   rw [show k + 1 + ps.length=(k + ps.length) + 1 by omega]
   simp
 | _=>intro p k zs ps h; exact absurd rfl h
theorem put_cells (off:Nat):∀ (cs:List Value) (i:Nat) (C:Array Value),off + i + cs.length≤C.size →
  ((cs.zipIdx i).foldl (fun cs (x:Value × Nat)=>cs.setIfInBounds (off + x.2) x.1) C).toList=C.toList.take (off + i) ++ cs ++ C.toList.drop (off + i + cs.length):=by
 intro cs
 induction cs with
 | nil=>intro i C _; simp
 | cons c r ih=>
  intro i C h
  simp only [List.length_cons] at h
  simp only [List.zipIdx_cons,List.foldl_cons]
  rw [ih (i + 1) _ (by simp; omega)]
  have:=list_seg_step C.toList (off + i) c r (by simp; omega)
  simpa [Array.toList_setIfInBounds,Nat.add_assoc,Nat.add_comm,Nat.add_left_comm] using this
theorem fill_one {place:Nat→Option (Nat × Nat)} {C:Array Value} {i off sz:Nat} {u:Value} {rest:List (Nat × Value)} (hp:place i=some (off,sz)) (hs:u.cells.size=sz) (hf:u.cells.toList=[] ∨ off + u.cells.size≤C.size) (hoff:off≤C.size) :
  Instr.fill place C ((i,u)::rest)=Instr.fill place (C.toList.take off ++ u.cells.toList ++ C.toList.drop (off + u.cells.size)).toArray rest:=by
 have hfit:off + u.cells.size≤C.size:=by
  rcases hf with hf | hf
  ·have:u.cells.size=0:=by simpa using congrArg List.length hf
   omega
  ·exact hf
 have hno:¬ (C.size < off + u.cells.size):=by omega
 simp only [Instr.fill,hp,hs,ne_eq,not_true_eq_false,decide_false,Bool.false_or]
 rw [if_neg (by simp; omega)]
 congr 1
 apply Array.ext'
 have:=put_cells off u.cells.toList 0 C (by simpa using hfit)
 rw [← Array.foldl_toList]
 simpa [hs] using this
section
variable {g fl n n' nt lim:Nat} {h h':HT} {t:FT} {a:Act} {o:Oper} {w:World} {v:RV} {ys:Ys} {cl:Cl'}
theorem knownAtom_ok {u:Value} (h:knownAtom u=true):Cell u:=by
 refine (atom_ok (ρ:=fun _=>0) (m:=fun _=>none) (fun e=>?_)).2
 unfold knownAtom at h
 rw [e] at h; cases h
theorem allKnown {l:List Value} (h:l.all knownAtom=true):∀ x ∈ l,Cell x:=fun x hx=>knownAtom_ok (List.all_eq_true.1 h x hx)
theorem fillP_ok (F:Fr P ρ m nt t a.tmps) {place:Nat→Option (Nat × Nat)}:∀ (ps:List (Nat × Operand)) (l:List (Nat × Nat × RO)) (z:RV) (C:Array Value),l.length=ps.length →
  (∀ (k i:Nat) (x:Operand),ps[k]?=some (i,x)→∃ off sz:Nat,place i=some (off,sz)∧l[k]?=some (off,sz,opd P nt x)∧0 < sz) →
  fillP t l z ≠ .un→denC ρ m z C.toList→(∀ x ∈ C.toList,Cell x) →
  ∃ C':Array Value,Instr.fill place C (ps.map fun p=>(p.1,a.eval p.2))=some C'∧C'.size=C.size∧denC ρ m (fillP t l z) C'.toList∧∀ x ∈ C'.toList,Cell x
 | [],[],z,C,_,_,_,hz,hc=>⟨C,rfl,rfl,hz,hc⟩
 | [],_::_,_,_,hl,_,_,_,_=>by simp at hl
 | _::_,[],_,_,hl,_,_,_,_=>by simp at hl
 | (i,x)::ps,y::l,z,C,hl,hp,hu,hz,hc=>by
  obtain ⟨off,sz,h1,h2,h0⟩:=hp 0 i x rfl
  simp only [List.getElem?_cons_zero,Option.some.injEq] at h2
  subst h2
  have e:fillP t ((off,sz,opd P nt x)::l) z=gC .un (ev t (opd P nt x)) (fun c=>gO .un (chLen c) fun m=>bf (Nat.beq m sz) (nU .un (patch z c off) (fillP t l)) .un):=rfl
  rw [e] at hu
  have hne:ev t (opd P nt x) ≠ .un:=fun q=>hu (by rw [q]; rfl)
  have dx:=opd_ok F x hne
  obtain ⟨c,e2,hd,hcc⟩:∃ c,(gO RV.un (chLen c) fun m=>bf (Nat.beq m sz) (nU RV.un (patch z c off) (fillP t l)) RV.un)=fillP t ((off,sz,opd P nt x)::l) z∧denC ρ m c (a.eval x).cells.toList∧∀ y ∈ (a.eval x).cells.toList,Cell y:=by
   rw [e]
   rcases gC_ok (x:=gC RV.un (ev t (opd P nt x)) (fun c=>gO RV.un (chLen c) fun m=>bf (Nat.beq m sz) (nU RV.un (patch z c off) (fillP t l)) RV.un)) rfl (fun q=>hu q.symm) with ⟨c,hc1,e3⟩ | ⟨_,e3,hcell⟩
   ·rw [hc1] at dx
    obtain ⟨cs,d1,d2,d3⟩:=dx
    exact ⟨c,e3,by rw [d3]; exact d1,by rw [d3]; exact d2⟩
   ·have hx:=hcell ρ m (a.eval x) dx
    refine ⟨_,e3,?_,?_⟩
    ·rw [cells_of_cell hx]; exact denC_cons.2 ⟨a.eval x,[],rfl,dx,denC_nil.2 rfl⟩
    ·rw [cells_of_cell hx]; simpa using hx
  rw [← e] at hu
  rw [← e2] at hu ⊢
  obtain ⟨q,hq,e4⟩:=gO_ok (x:=gO RV.un (chLen c) fun m=>bf (Nat.beq m sz) (nU RV.un (patch z c off) (fillP t l)) RV.un) rfl (fun q=>hu q.symm)
  obtain ⟨hb,e5⟩:=bf_ok e4 (fun q=>hu q.symm)
  obtain rfl:=beq_ok hb
  obtain ⟨h3,e6⟩:=nU_ok e5 (fun q=>hu q.symm)
  rw [← e6] at hu ⊢
  have hlen:=chLen_ok q _ hq hd
  obtain ⟨h4,h5⟩:=patch_len c off C.toList _ h3 hz hd
  have hfit:off + (a.eval x).cells.toList.length≤C.toList.length:=by
   rcases h4 with h4 | h4
   ·rw [h4] at hlen; simp at hlen; omega
   ·exact h4
  have hs:(a.eval x).cells.size=q:=by simpa using hlen
  obtain ⟨C',g1,g2,g3,g4⟩:=fillP_ok F ps l (patch z c off) (C.toList.take off ++ (a.eval x).cells.toList ++ C.toList.drop (off + (a.eval x).cells.toList.length)).toArray (by simpa using hl)
   (fun k i x hk=>hp (k + 1) i x hk) hu (by simpa using h5) (fun y hy=>by
    simp only [List.mem_append] at hy
    rcases hy with (hy | hy) | hy
    ·exact hc y (List.mem_of_mem_take hy)
    ·exact hcc y hy
    ·exact hc y (List.mem_of_mem_drop hy))
  refine ⟨C',?_,?_,g3,g4⟩
  ·rw [List.map_cons,fill_one h1 hs (.inr (by simpa using hfit)) (by simp at hfit; omega)]
   simpa using g1
  ·rw [g2]; simp at hfit ⊢; omega
end
end Go.Rn
namespace Go.Rn
variable {ρ:Nat→Int} {m m':Mp} {P:Program}
theorem mapM_len {α β:Type} {f:α→Option β}:∀ {l:List α} {r:List β},l.mapM f=some r→r.length=l.length∧∀ (k:Nat) (x:α),l[k]?=some x→∃ y,f x=some y∧r[k]?=some y
 | [],r,h=>by simp at h; subst h; simp
 | x::l,r,h=>by
  rw [List.mapM_cons] at h
  cases hx:f x with
  | none=>rw [hx] at h; cases h
  | some y=>
   cases hl:l.mapM f with
   | none=>rw [hx,hl] at h; cases h
   | some q=>
    rw [hx,hl] at h
    cases h
    obtain ⟨h1,h2⟩:=mapM_len hl
    refine ⟨by simp [h1],fun k z hk=>?_⟩
    cases k with
    | zero=>simp at hk; subst hk; exact ⟨y,hx,rfl⟩
    | succ k=>simpa using h2 k z (by simpa using hk)
section
variable {g fl n n' nt lim:Nat} {h h':HT} {t:FT} {a:Act} {o:Oper} {w:World} {v:RV} {ys:Ys} {cl:Cl'}
variable (F:Fr P ρ m nt t a.tmps) (s:Sim P ρ m g h w)
include F s
theorem ok_bd {ty:TypeId} {ps:Array (Nat × Operand)} {z:Value} {l:List (Nat × Nat × RO)} (ho:o.op=.build ty ps) (hz:zeroOf P ty=some z) (hp:places P ty ps.toList nt=some l) (hk:z.cells.toList.all knownAtom=true)
  (e:step (.bd (chain z.cells.toList) l) ys cl fl lim t h n=.ok v h' n'):Ok1 P ρ g fl o a m w h n v h' n':=by
 have e1:nU (SR.bad [5]) (fillP t l (chain z.cells.toList)) (fun c=>SR.ok (.agg c) h n)=.ok v h' n':=e
 obtain ⟨hu,e2⟩:=nU_ok e1 (by simp)
 cases e2
 have hzc:=allKnown hk
 obtain ⟨it,hit,hiz⟩:∃ it,P.info? ty=some it∧it.zero=some z:=by
  unfold zeroOf at hz
  cases hi:P.info? ty with
  | none=>rw [hi] at hz; cases hz
  | some it=>rw [hi] at hz; exact ⟨it,rfl,hz⟩
 have fin:∀ (C':Array Value),P.built ty (ps.toList.map fun p=>(p.1,a.eval p.2))=some C'→denC ρ m (fillP t l (chain z.cells.toList)) C'.toList→(∀ x ∈ C'.toList,Cell x)→Ok1 P ρ g fl o a m w h n (.agg (fillP t l (chain z.cells.toList))) h n:=fun C' hb hd hc=>by
  refine Ok1.quiet (u:=.agg C') s ?_ ⟨C'.toList,hd,hc,rfl⟩
  have hr:=run_build w ty (ps.map fun (i,x)=>(i,a.eval x)) C' (by simpa using hb)
  simp only [execOp,ho,Sem.run_bind,hr,Result.andThen_ok]
  rfl
 unfold places at hp
 split at hp
 ·rename_i fs hus
  cases hpl:fs.toList.mapM (fun f=>(P.info? f.type).map fun i=>(f.offset,i.size)) with
  | none=>rw [hpl] at hp; cases hp
  | some pl=>
   rw [hpl] at hp
   obtain ⟨h1,h2⟩:=mapM_len hp
   obtain ⟨C',g1,g2,g3,g4⟩:=fillP_ok F (place:=(pl.toArray[·]?)) ps.toList l (chain z.cells.toList) z.cells h1 (fun k i x hkx=>by
    obtain ⟨y,hy,hly⟩:=h2 k (i,x) hkx
    cases hq:pl[i]? with
    | none=>simp [hq] at hy
    | some q=>
     simp [hq] at hy
     obtain ⟨h0,rfl⟩:=hy
     exact ⟨q.1,q.2,by simp [hq],hly,h0⟩) hu (chain_ok _).1 hzc
   refine fin C' ?_ g3 g4
   simp only [Program.built,hit,hus,hiz,hpl]
   exact g1
 ·rename_i k el hua
  cases hie:P.info? el with
  | none=>rw [hie] at hp; cases hp
  | some ie=>
   rw [hie] at hp
   obtain ⟨h1,h2⟩:=mapM_len hp
   obtain ⟨C',g1,g2,g3,g4⟩:=fillP_ok F (place:=fun i=>some (i * ie.size,ie.size)) ps.toList l (chain z.cells.toList) z.cells h1 (fun k i x hkx=>by
    obtain ⟨y,hy,hly⟩:=h2 k (i,x) hkx
    by_cases h0:0 < ie.size
    ·simp [h0] at hy
     subst hy
     exact ⟨i * ie.size,ie.size,rfl,hly,h0⟩
    ·simp [h0] at hy) hu (chain_ok _).1 hzc
   refine fin C' ?_ g3 g4
   simp only [Program.built,hit,hua,hiz,hie]
   exact g1
 ·cases hp
theorem ok_bs (hf:fl≤n) {ty el:TypeId} {len sz:Nat} {ps:Array (Nat × Operand)} {z:Value} (ho:o.op=.buildSlice ty len ps) (hu:P.underlying ty=some (.slice el)) (hs:szOf P el=some sz) (hz:zeroOf P el=some z) (h0:0 < sz) (hlen:len * sz≤65536) (hzs:z.cells.size=sz) (hk:z.cells.toList.all knownAtom=true)
  (e:step (.bs (chain ((List.range (len * sz)).map fun i=>z.cells[i % sz]!)) len (ps.toList.map fun p=>(p.1 * sz,sz,opd P nt p.2))) ys cl fl lim t h n=.ok v h' n'):Ok1 P ρ g fl o a m w h n v h' n':=by
 have e1:nU (SR.bad [6]) (fillP t (ps.toList.map fun p=>(p.1 * sz,sz,opd P nt p.2)) (chain ((List.range (len * sz)).map fun i=>z.cells[i % sz]!))) (fun c=>newCh h n c (.sl n 0 len len))=.ok v h' n':=e
 obtain ⟨hne,e2⟩:=nU_ok e1 (by simp)
 have hzc:=allKnown hk
 have hrow:∀ x ∈ ((List.range (len * sz)).map fun i=>z.cells[i % sz]!),Cell x:=by
  intro x hx
  obtain ⟨i,_,rfl⟩:=List.mem_map.1 hx
  have hi:i % sz < z.cells.size:=by rw [hzs]; exact Nat.mod_lt _ h0
  rw [getElem!_pos z.cells (i % sz) hi]
  exact hzc _ (by simp)
 obtain ⟨C',g1,g2,g3,g4⟩:=fillP_ok F (place:=fun i=>some (i * sz,sz)) ps.toList (ps.toList.map fun p=>(p.1 * sz,sz,opd P nt p.2)) (chain ((List.range (len * sz)).map fun i=>z.cells[i % sz]!)) ((List.range (len * sz)).map fun i=>z.cells[i % sz]!).toArray (by simp) (fun k i x hkx=>⟨i * sz,sz,rfl,by simp [hkx],h0⟩) hne (chain_ok _).1 (by simpa using hrow)
 obtain ⟨rfl,rfl,hab,htr⟩:=newCh_ok s hf g3 (fun k u hk _=>g4 u (List.mem_of_getElem? hk)) e2 el
 refine ⟨hab,fun hfr K Q hK=>?_⟩
 have hn:=hfr n (Nat.le_refl _) (Nat.lt_succ_self _)
 refine op_value (w':=w.alloc (.cells C' el (0,0))) (u:=.slice (some ⟨w.heap.size,0,none⟩) len len) ?_ (hK _ _ _ (htr hn) ⟨w.heap.size,0,C'.toList.length,upd_self _ _,Nat.le_refl _,rfl⟩)
 have hbig:¬ (16777216 < len * sz):=by omega
 have g1':Instr.fill (fun i=>some (i * sz,sz)) ((List.range (len * sz)).map fun i=>z.cells[i % sz]!).toArray (ps.toList.map fun p=>(p.1,a.eval p.2))=some C':=g1
 have hps:(ps.map fun x=>(x.1,a.eval x.2)).toList=ps.toList.map fun p=>(p.1,a.eval p.2):=by simp
 by_cases q:len * sz=0
 ·have e0:(Array.map (fun _=>(default:Value)) (Array.range (len * sz)))=((List.range (len * sz)).map fun i=>z.cells[i % sz]!).toArray:=by simp [q]
  simp [execOp,ho,Instr.buildSlice,run_underlying hu,szOf_run hs,hbig,newRow]
  rw [if_pos q,e0,g1']
  simp
 ·have e1:Array.map (fun x=>z.cells[x % z.cells.size]!) (Array.range (len * sz))=((List.range (len * sz)).map fun i=>z.cells[i % sz]!).toArray:=by
   rw [hzs]; apply Array.ext'; simp
  simp [execOp,ho,Instr.buildSlice,run_underlying hu,szOf_run hs,hbig,newRow]
  rw [if_neg q,zeroOf_run hz]
  simp only [Result.andThen_ok]
  rw [e1,g1']
  simp
end
end Go.Rn
namespace Go.Rn
variable {ρ:Nat→Int} {m m':Mp} {P:Program}
section
variable {g fl n n' nt lim:Nat} {h h':HT} {t:FT} {a:Act} {o:Oper} {w:World} {v:RV} {ys:Ys} {cl:Cl'}
def Bnd (v:Option Value) (d q:Nat):Prop:=(v=none∧q=d) ∨ ∃ j,v=some (.int j q)
theorem optN_ok (F:Fr P ρ m nt t a.tmps) {x:Option Operand} {d q:Nat} (e:optN t (optO P nt x) d=some q):Bnd (x.map a.eval) d q:=by
 unfold optN at e
 cases x with
 | none=>exact .inl ⟨rfl,by cases e; rfl⟩
 | some x=>
  have e1:gI none (ev t (opd P nt x)) (fun _ n=>bf (nonI n) (some (natI n)) none)=some q:=e
  obtain ⟨j,z,hz,e2⟩:=gI_ok e1 (by simp)
  obtain ⟨h1,e3⟩:=bf_ok e2 (by simp)
  cases e3
  have dx:=opd_ok F x (by rw [hz]; simp)
  rw [hz] at dx
  refine .inr ⟨j,?_⟩
  show some (a.eval x)=_
  rw [show a.eval x=.int j z from dx,← nonI_ok h1]
theorem bound_run {j:IntKind} {q y:Nat} (h:q≤y) (code:BoundsCode) (w:World):(Instr.sliceBound (.int j q) y code).run P w=.ok q w:=by
 simp [Instr.sliceBound,asIntOf,h]
theorem bounds_run {isSl:Bool} {len cap l hi M:Nat} {lo hv mv:Option Value} (hl:Bnd lo 0 l) (hh:Bnd hv len hi) (hm:(mv=none∧M=cap) ∨ ((∃ j,mv=some (.int j M))∧hv.isSome=true)) (h1:l≤hi) (h2:hi≤M) (h3:M≤cap) (w:World) :
  (Instr.sliceBounds isSl len cap lo hv mv).run P w=.ok (l,hi,M) w:=by
 unfold Instr.sliceBounds
 rcases hm with ⟨rfl,rfl⟩ | ⟨⟨j,rfl⟩,hs⟩
 ·rcases hh with ⟨rfl,rfl⟩ | ⟨j2,rfl⟩ <;> rcases hl with ⟨rfl,rfl⟩ | ⟨j3,rfl⟩ <;> simp [bound_run h1,bound_run h2]
 ·rcases hh with ⟨rfl,rfl⟩ | ⟨j2,rfl⟩
  ·cases hs
  ·rcases hl with ⟨rfl,rfl⟩ | ⟨j3,rfl⟩ <;> simp [bound_run h1,bound_run h2,bound_run h3]
theorem slK_ok {es b o lo hi M B O Z:Nat} {r:RV} (hm:m b=some (B,O,Z)) (e:slK es b o lo hi M=r) (hr:r ≠ .un):lo≤hi∧hi≤M∧den ρ m r (.slice (some (if M=lo then ⟨B,O + o,none⟩ else (⟨B,O + o,none⟩:Addr).add (lo * es))) (hi - lo) (M - lo)):=by
 unfold slK at e
 obtain ⟨h1,e2⟩:=bf_ok e hr.symm
 obtain ⟨h2,e3⟩:=bf_ok e2 hr.symm
 have g1:=ble_ok h1
 have g2:=ble_ok h2
 refine ⟨g1,g2,?_⟩
 rcases bf_or e3 with ⟨h3,e4⟩ | ⟨h3,e4⟩
 ·rw [← e4,if_pos (beq_ok h3)]
  exact ⟨B,O,Z,hm,by show hi - lo≤M - lo; omega,rfl⟩
 ·have hne:M ≠ lo:=fun q=>by rw [q] at h3; simp at h3
  rw [← e4,if_neg hne,add_at]
  exact ⟨B,O,Z,hm,by show hi - lo≤M - lo; omega,by show Value.slice (some ⟨B,O + o + lo * es,none⟩) _ _=Value.slice (some ⟨B,O + (o + lo * es),none⟩) _ _; rw [Nat.add_assoc]; rfl⟩
theorem slV_ok {es lo hi:Nat} {mx:Option Nat} {x r:RV} {u:Value} (hd:den ρ m x u) (e:slV es x lo hi mx=r) (hr:r ≠ .un) :
  ∃ p len cap M,u=.slice p len cap∧slLen x=some len∧lo≤hi∧hi≤M∧M≤cap∧((mx=none∧M=cap) ∨ mx=some M)∧den ρ m r (.slice (if M=lo then p else p.map (·.add (lo * es))) (hi - lo) (M - lo)):=by
 unfold slV at e
 rcases gL_ok e hr.symm with ⟨rfl,e2⟩ | ⟨b,q,l,c,rfl,e2⟩ | ⟨b,q,l,f,rfl,e2⟩ | ⟨b,f,rfl,e2⟩
 ·obtain ⟨h1,e3⟩:=bf_ok e2 hr.symm
  obtain ⟨h2,e4⟩:=bf_ok e3 hr.symm
  obtain rfl:=beq_ok h1
  obtain rfl:=beq_ok h2
  have hx:u=.slice none 0 0:=hd
  rcases gO_or e4 with ⟨M,rfl,e5⟩ | ⟨rfl,e5⟩
  ·obtain ⟨h3,e6⟩:=bf_ok e5 hr.symm
   obtain rfl:=beq_ok h3
   exact ⟨none,0,0,0,hx,rfl,Nat.le_refl _,Nat.le_refl _,Nat.le_refl _,.inr rfl,by rw [← e6]; rfl⟩
  ·exact ⟨none,0,0,0,hx,rfl,Nat.le_refl _,Nat.le_refl _,Nat.le_refl _,.inl ⟨rfl,rfl⟩,by rw [← e5]; rfl⟩
 ·obtain ⟨B,O,Z,hm,hlc,hx⟩:=hd
  rcases gO_or e2 with ⟨M,rfl,e5⟩ | ⟨rfl,e5⟩
  ·obtain ⟨h3,e6⟩:=bf_ok e5 hr.symm
   obtain ⟨g1,g2,g3⟩:=slK_ok (ρ:=ρ) hm e6 hr
   refine ⟨_,l,c,M,hx,rfl,g1,g2,ble_ok h3,.inr rfl,?_⟩
   split at g3 <;> rename_i q
   ·rw [if_pos q]; exact g3
   ·rw [if_neg q]; exact g3
  ·obtain ⟨g1,g2,g3⟩:=slK_ok (ρ:=ρ) hm e5 hr
   refine ⟨_,l,c,c,hx,rfl,g1,g2,Nat.le_refl _,.inl ⟨rfl,rfl⟩,?_⟩
   split at g3 <;> rename_i q
   ·rw [if_pos q]; exact g3
   ·rw [if_neg q]; exact g3
 ·obtain ⟨h1,e3⟩:=bf_ok e2 hr.symm
  obtain rfl:es=f % 1048576:=beq_ok h1
  obtain ⟨B,O,Z,c,hm,hlc,hZ,hx⟩:=hd
  rcases gO_or e3 with ⟨M,rfl,e5⟩ | ⟨rfl,e5⟩
  ·obtain ⟨h3,e6⟩:=bf_ok e5 hr.symm
   obtain ⟨g1,g2,g3⟩:=slK_ok (ρ:=ρ) hm e6 hr
   refine ⟨_,l,c,M,hx,rfl,g1,g2,Nat.le_trans (ble_ok h3) hlc,.inr rfl,?_⟩
   split at g3 <;> rename_i q
   ·rw [if_pos q]; exact g3
   ·rw [if_neg q]; exact g3
  ·unfold slU at e5
   obtain ⟨h2,e6⟩:=bf_ok e5 hr.symm
   obtain ⟨h3,e7⟩:=bf_ok e6 hr.symm
   have g2:=ble_ok h2
   have g3:hi≤l + f / 1048576:=ble_ok h3
   refine ⟨_,l,c,c,hx,rfl,g2,Nat.le_trans g3 hlc,Nat.le_refl _,.inl ⟨rfl,rfl⟩,?_⟩
   rcases bf_or e7 with ⟨h4,e8⟩ | ⟨h4,e8⟩
   ·obtain rfl:=beq_ok h4
    rw [← e8]
    refine ⟨B,O,Z,c,hm,by show hi + (f % 1048576 + 1048576 * (l + f / 1048576 - hi)) / 1048576≤c; omega,by show O + q + c * ((f % 1048576 + 1048576 * (l + f / 1048576 - hi)) % 1048576)=Z; rw [Nat.add_mul_mod_self_left,Nat.mod_mod]; exact hZ,?_⟩
    split
    ·simp_all
    ·simp [Addr.add]
   ·have hlo:lo ≠ 0:=fun q=>by rw [q] at h4; simp at h4
    rcases bf_or e8 with ⟨h5,e9⟩ | ⟨h5,e9⟩
    ·have g5:lo + 1≤l + f / 1048576:=ble_ok h5
     rw [← e9,if_neg (by omega)]
     refine ⟨B,O,Z,c - lo,hm,by show hi - lo + (f % 1048576 + 1048576 * (l + f / 1048576 - hi)) / 1048576≤c - lo; omega,?_,?_⟩
     ·show O + (q + lo * (f % 1048576)) + (c - lo) * ((f % 1048576 + 1048576 * (l + f / 1048576 - hi)) % 1048576)=Z
      rw [Nat.add_mul_mod_self_left,Nat.mod_mod,← hZ,Nat.sub_mul]
      have:lo * (f % 1048576)≤c * (f % 1048576):=Nat.mul_le_mul_right _ (by omega)
      omega
     ·simp only [Option.map_some,add_at]
      show Value.slice (some ⟨B,O + q + lo * (f % 1048576),none⟩) _ _=Value.slice (some ⟨B,O + (q + lo * (f % 1048576)),none⟩) _ _
      rw [Nat.add_assoc]; rfl
    ·have g5:l + f / 1048576≤lo:=by
      rcases Nat.lt_or_ge lo (l + f / 1048576) with q | q
      ·rw [show Nat.ble (Nat.succ lo) (Nat.add l (Nat.div f 1048576))=true from ble_yes q] at h5; cases h5
      ·exact q
     have hlo2:hi=lo:=by omega
     subst hlo2
     rw [← e9]
     by_cases hcl:c=hi
     ·rw [if_pos hcl]
      exact ⟨B,O,Z,⟨B,O + q,none⟩,0,hm,.inl rfl,by simp [hcl]⟩
     ·rw [if_neg hcl]
      refine ⟨B,O,Z,⟨B,O + q + hi * (f % 1048576),none⟩,c - hi,hm,.inr ⟨_,rfl,?_⟩,by simp [add_at]⟩
      rw [← hZ,Nat.sub_mul]
      have:hi * (f % 1048576)≤c * (f % 1048576):=Nat.mul_le_mul_right _ (by omega)
      omega
 ·obtain ⟨h1,e3⟩:=bf_ok e2 hr.symm
  obtain rfl:=beq_ok h1
  obtain ⟨h2,e4⟩:=bf_ok e3 hr.symm
  obtain ⟨h3,e5⟩:=bf_ok e4 hr.symm
  obtain rfl:=beq_ok h2
  obtain rfl:=beq_ok h3
  obtain ⟨B,O,Z,O',c,hm,hZ,hx⟩:=hd
  rcases gO_or e5 with ⟨M,rfl,e6⟩ | ⟨rfl,e6⟩
  ·exact absurd e6.symm hr
  ·rw [← e6]
   refine ⟨_,0,c,c,hx,rfl,Nat.le_refl _,Nat.zero_le _,Nat.le_refl _,.inl ⟨rfl,rfl⟩,B,O,Z,O',c,hm,hZ,?_⟩
   split
   ·simp_all
   ·simp [Addr.add]
variable (F:Fr P ρ m nt t a.tmps) (s:Sim P ρ m g h w)
include F s
theorem ok_sc {ty el:TypeId} {x:Operand} {lo hi mx:Option Operand} {sz:Nat} (ho:o.op=.slice ty x lo hi mx) (hu:P.underlying ty=some (.slice el)) (hs:szOf P el=some sz) (hmx:mx.isSome=true→hi.isSome=true)
  (e:step (.sc sz (opd P nt x) (optO P nt lo) (optO P nt hi) (optO P nt mx)) ys cl fl lim t h n=.ok v h' n'):Ok1 P ρ g fl o a m w h n v h' n':=by
 have e1:gO (SR.bad [35]) (slLen (ev t (opd P nt x))) (fun l=>gO (SR.bad [36]) (optN t (optO P nt lo) 0) fun a=>gO (SR.bad [37]) (optN t (optO P nt hi) l) fun b=>
  gO (okV (slV sz (ev t (opd P nt x)) a b none) h n 38) (optO P nt mx) fun m=>gO (SR.bad [39]) (optN t (some m) 0) fun m=>okV (slV sz (ev t (opd P nt x)) a b (some m)) h n 38)=.ok v h' n':=e
 obtain ⟨l,hl,e2⟩:=gO_ok e1 (by simp)
 obtain ⟨p,hp,e3⟩:=gO_ok e2 (by simp)
 obtain ⟨q,hq,e4⟩:=gO_ok e3 (by simp)
 have dx:=opd_ok F x (fun q=>by rw [q] at hl; cases hl)
 have bl:=optN_ok F hp
 have bh:=optN_ok F hq
 rcases gO_or e4 with ⟨mo,hmo,e5⟩ | ⟨hmo,e5⟩
 ·cases mx with
  | none=>cases hmo
  | some y=>
   cases hmo
   obtain ⟨M,hM,e6⟩:=gO_ok e5 (by simp)
   obtain ⟨hr,rfl,rfl,rfl⟩:=okV_ok e6
   obtain ⟨pp,len,cap,M',hx,hsl,g1,g2,g3,g4,g5⟩:=slV_ok dx rfl hr
   rw [hl] at hsl
   cases hsl
   have hMM:M'=M:=by
    rcases g4 with ⟨q,_⟩ | q
    ·cases q
    ·cases q; rfl
   subst hMM
   have bm:=optN_ok F (x:=some y) hM
   have bm':∃ j,(some y).map a.eval=some (.int j M'):=by
    rcases bm with ⟨q,_⟩ | q
    ·cases q
    ·exact q
   have hb:=bounds_run (P:=P) (isSl:=true) bl bh (.inr ⟨bm',by simpa using hmx rfl⟩) g1 g2 g3 w
   exact Ok1.quiet (u:=.slice (if M'=p then pp else pp.map (·.add (p * sz))) (q - p) (M' - p)) s (by
    have hb':=hb
    simp only [Option.map_some] at hb'
    simp [execOp,ho,Instr.sliceAt,Instr.slice,run_underlying hu,hx,hb',szOf_run hs]) g5
 ·cases mx with
  | some y=>cases hmo
  | none=>
   obtain ⟨hr,rfl,rfl,rfl⟩:=okV_ok e5
   obtain ⟨pp,len,cap,M',hx,hsl,g1,g2,g3,g4,g5⟩:=slV_ok dx rfl hr
   rw [hl] at hsl
   cases hsl
   have hMM:M'=cap:=by
    rcases g4 with ⟨_,q⟩ | q
    ·exact q
    ·cases q
   subst hMM
   have hb:=bounds_run (P:=P) (isSl:=true) bl bh (.inl ⟨rfl,rfl⟩) g1 g2 g3 w
   exact Ok1.quiet (u:=.slice (if M'=p then pp else pp.map (·.add (p * sz))) (q - p) (M' - p)) s (by
    simp [execOp,ho,Instr.sliceAt,Instr.slice,run_underlying hu,hx,hb,szOf_run hs]) g5
theorem ok_ss {ty:TypeId} {x:Operand} {lo hi mx:Option Operand} (ho:o.op=.slice ty x lo hi mx) (hu:P.underlying ty=some .string) (hmx:mx.isNone=true)
  (e:step (.ss (opd P nt x) (optO P nt lo) (optO P nt hi)) ys cl fl lim t h n=.ok v h' n'):Ok1 P ρ g fl o a m w h n v h' n':=by
 have e1:gS (SR.bad [40]) (ev t (opd P nt x)) (fun l=>gO (SR.bad [41]) (optN t (optO P nt lo) 0) fun a=>gO (SR.bad [42]) (optN t (optO P nt hi) l.length) fun b=>
  bf (Nat.ble a b) (bf (Nat.ble b l.length) (SR.ok (.s ((l.take b).drop a)) h n) (SR.bad [43])) (SR.bad [44]))=.ok v h' n':=e
 obtain ⟨l,hl,e2⟩:=gS_ok e1 (by simp)
 obtain ⟨p,hp,e3⟩:=gO_ok e2 (by simp)
 obtain ⟨q,hq,e4⟩:=gO_ok e3 (by simp)
 obtain ⟨h1,e5⟩:=bf_ok e4 (by simp)
 obtain ⟨h2,e6⟩:=bf_ok e5 (by simp)
 cases e6
 have dx:=opd_ok F x (by rw [hl]; simp)
 rw [hl] at dx
 obtain ⟨hx,h256⟩:=dx
 have hmn:mx=none:=by simpa using hmx
 have hb:=bounds_run (P:=P) (isSl:=false) (cap:=l.length) (optN_ok F hp) (optN_ok F hq) (.inl ⟨rfl,rfl⟩) (ble_ok h1) (ble_ok h2) (Nat.le_refl _) w
 have hsz:(⟨(l.map UInt8.ofNat).toArray⟩:ByteArray).size=l.length:=by show (l.map UInt8.ofNat).toArray.size=_; simp
 refine Ok1.quiet (u:=.string ⟨(((l.take q).drop p).map UInt8.ofNat).toArray⟩) s ?_ ⟨rfl,fun y hy=>h256 y (List.mem_of_mem_take (List.mem_of_mem_drop hy))⟩
 have hext:=ByteArray.extract_mk (l.map UInt8.ofNat) p q
 simp [execOp,ho,hmn,Instr.sliceAt,Instr.slice,run_underlying hu,hx,hsz,hb,hext,List.drop_take]
theorem ok_sa {ty el:TypeId} {x:Operand} {lo hi mx:Option Operand} {sz k:Nat} (ho:o.op=.slice ty x lo hi mx) (hu:P.underlying ty=some (.array k el)) (hs:szOf P el=some sz) (hmx:mx.isNone=true)
  (e:step (.sa k sz (opd P nt x) (optO P nt lo) (optO P nt hi)) ys cl fl lim t h n=.ok v h' n'):Ok1 P ρ g fl o a m w h n v h' n':=by
 have e1:gP (SR.bad [45]) (ev t (opd P nt x)) (fun b o=>gO (SR.bad [46]) (optN t (optO P nt lo) 0) fun a=>gO (SR.bad [47]) (optN t (optO P nt hi) k) fun e=>okV (slK sz b o a e k) h n 48)=.ok v h' n':=e
 obtain ⟨b,c,hb,e2⟩:=gP_ok e1 (by simp)
 obtain ⟨p,hp,e3⟩:=gO_ok e2 (by simp)
 obtain ⟨q,hq,e4⟩:=gO_ok e3 (by simp)
 obtain ⟨hr,rfl,rfl,rfl⟩:=okV_ok e4
 have dx:=opd_ok F x (by rw [hb]; simp)
 rw [hb] at dx
 obtain ⟨B,O,Z,hm,hx⟩:=dx
 obtain ⟨g1,g2,g3⟩:=slK_ok (ρ:=ρ) hm rfl hr
 have hmn:mx=none:=by simpa using hmx
 have hbr:=bounds_run (P:=P) (isSl:=false) (cap:=k) (optN_ok F hp) (optN_ok F hq) (.inl ⟨rfl,rfl⟩) g1 g2 (Nat.le_refl _) w
 refine Ok1.quiet (u:=.slice (some (if k=p then ⟨B,O + c,none⟩ else (⟨B,O + c,none⟩:Addr).add (p * sz))) (q - p) (k - p)) s ?_ g3
 simp [execOp,ho,hmn,Instr.sliceAt,run_underlying hu,hx,Instr.sureAddr,hbr,szOf_run hs]
omit F s in
theorem flat_get (l:List Value) (_hl:0 < l.length):∀ (c k:Nat),k < c * l.length→(List.replicate c l).flatten[k]?=l[k % l.length]?:=by
 intro c
 induction c with
 | zero=>intro k hk; omega
 | succ c ih=>
  intro k hk
  rw [List.replicate_succ,List.flatten_cons]
  by_cases hlt:k < l.length
  ·rw [List.getElem?_append_left hlt,Nat.mod_eq_of_lt hlt]
  ·rw [List.getElem?_append_right (by omega),ih (k - l.length) (by rw [Nat.succ_mul] at hk; omega),← Nat.mod_eq_sub_mod (by omega)]
theorem ok_ms (hf:fl≤n) {ty el:TypeId} {x y:Operand} {i:TypeInfo} {z:Value} (ho:o.op=.makeSlice ty x y) (hu:P.underlying ty=some (.slice el)) (hi:P.info? el=some i) (hz:i.zero=some z) (h0:0 < i.size) (hby:i.bytes≤65536) (hzs:z.cells.size=i.size) (hk:z.cells.toList.all knownAtom=true)
  (e:step (.ms (chain z.cells.toList) (opd P nt x) (opd P nt y)) ys cl fl lim t h n=.ok v h' n'):Ok1 P ρ g fl o a m w h n v h' n':=by
 have e1:gI (SR.bad [28]) (ev t (opd P nt x)) (fun j a=>gI (SR.bad [29]) (ev t (opd P nt y)) fun k b=>
  bf (bf (is64 j) (is64 k) false) (bf (nonI a) (bf (nonI b) (bf (Nat.ble (natI a) (natI b)) (bf (Nat.ble (natI b) 65536) (newCh h n (rep (chain z.cells.toList) (natI b)) (.sl n 0 (natI a) (natI b))) (SR.bad [30])) (SR.bad [31])) (SR.bad [32])) (SR.bad [33])) (SR.bad [34]))=.ok v h' n':=e
 obtain ⟨j,p,hp,e2⟩:=gI_ok e1 (by simp)
 obtain ⟨k,q,hq,e3⟩:=gI_ok e2 (by simp)
 obtain ⟨hjk,e4⟩:=bf_ok e3 (by simp)
 obtain ⟨hj,hk2⟩:=bf_ok hjk (by simp)
 obtain rfl:=is64_ok hj
 obtain rfl:=is64_ok hk2
 obtain ⟨h1,e5⟩:=bf_ok e4 (by simp)
 obtain ⟨h2,e6⟩:=bf_ok e5 (by simp)
 obtain ⟨h3,e7⟩:=bf_ok e6 (by simp)
 obtain ⟨h4,e8⟩:=bf_ok e7 (by simp)
 have dx:=opd_ok F x (by rw [hp]; simp)
 have dy:=opd_ok F y (by rw [hq]; simp)
 rw [hp] at dx
 rw [hq] at dy
 have hx:a.eval x=.int .i64 (natI p):=by rw [show a.eval x=.int .i64 p from dx,← nonI_ok h1]
 have hy:a.eval y=.int .i64 (natI q):=by rw [show a.eval y=.int .i64 q from dy,← nonI_ok h2]
 have g3:=ble_ok h3
 have g4:=ble_ok h4
 generalize natI p=l at *
 generalize natI q=c at *
 have hzc:=allKnown hk
 have hne:rep (chain z.cells.toList) c ≠ .un:=fun q=>by rw [q] at e8; cases e8
 have hd:=rep_ok (ρ:=ρ) (m:=m) (chain_ok z.cells.toList).1 c hne
 have hcell:∀ x ∈ (List.replicate c z.cells.toList).flatten,Cell x:=by
  intro x hx
  obtain ⟨r,hr,hxr⟩:=List.mem_flatten.1 hx
  rw [List.eq_of_mem_replicate hr] at hxr
  exact hzc x hxr
 obtain ⟨rfl,rfl,hab,htr⟩:=newCh_ok s hf hd (fun k u hk _=>hcell u (List.mem_of_getElem? hk)) e8 el
 refine ⟨hab,fun hfr K Q hK=>?_⟩
 have hn:=hfr n (Nat.le_refl _) (Nat.lt_succ_self _)
 refine op_value (w':=w.alloc (.cells (List.replicate c z.cells.toList).flatten.toArray el (0,0))) (u:=.slice (some ⟨w.heap.size,0,none⟩) l c) ?_ (hK _ _ _ (htr hn) ⟨w.heap.size,0,_,upd_self _ _,g3,rfl⟩)
 have w1:IntKind.i64.wrap (l:Int)=l:=IntWalk.i64_in _ (by omega)
 have w2:IntKind.i64.wrap (c:Int)=c:=IntWalk.i64_in _ (by omega)
 have hrow:madeCells z.cells (c * i.size)=(List.replicate c z.cells.toList).flatten.toArray:=by
  unfold madeCells
  apply Array.ext'
  apply List.ext_getElem?
  intro k
  have hlen:(List.replicate c z.cells.toList).flatten.length=c * i.size:=by simp [List.length_flatten,hzs]
  by_cases hk:k < c * i.size
  ·have hmod:k % i.size < z.cells.size:=by rw [hzs]; exact Nat.mod_lt _ h0
   have:=flat_get z.cells.toList (by simp; omega) c k (by simpa [hzs] using hk)
   simp only [Array.length_toList,hzs] at this
   show _=(List.replicate c z.cells.toList).flatten[k]?
   rw [this]
   simp [hk,hzs,getElem!_pos z.cells (k % i.size) hmod]
  ·rw [List.getElem?_eq_none (by simp; omega),List.getElem?_eq_none (by show (List.replicate c z.cells.toList).flatten.length≤k; rw [hlen]; omega)]
 have hby2:(i.bytes:Int) * (c:Int)≤281474976710656:=by
  have h1:i.bytes * c≤4294967296:=Nat.mul_le_mul hby g4
  have h2:((i.bytes * c:Nat):Int)≤4294967296:=Int.ofNat_le.2 h1
  rw [Int.natCast_mul] at h2
  omega
 have hr:=run_make (P:=P) w ty el i z hu hi hz .i64 .i64 l c (by omega) (by omega) hby2 (by omega)
 simp only [Int.toNat_natCast] at hr
 rw [hrow] at hr
 simp [execOp,ho,hx,hy,hr]
end
end Go.Rn
