/-
  One text of a symbolic evaluator over the model, shown sound once for every program: no statement is claimed here.
-/
import Derived.Test.YthfaoceleaaepaaGreatDoorRnS
import Derived.Scope
import Derived.Laws.Sem
namespace Go.Rn
variable {ρ:Nat→Int} {m m':Mp} {P:Program}
variable {g fl n n' nt:Nat} {h h':HT} {t:FT} {a:Act} {w:World} {v:RV} {ys:Ys} {cl:Cl'} {r:Option Nat}
theorem Tr.alloc (s:Sim P ρ m g h w) (o:Obj):Tr P ρ g fl h n m w h n m (w.alloc o):=
 ⟨⟨fun b c z hb=>let ⟨B,O,Z,h1,h2⟩:=s.cell b c z hb; ⟨B,O,Z,h1,h2.move (RowKit.Below.heap_alloc _ _ _ h2.lt) (Le.refl _)⟩,s.inj⟩,Ext.refl _ _ _,
  ⟨rfl,rfl,rfl,by simp,fun k hk _=>RowKit.Below.heap_alloc _ _ _ hk,fun k r hr=>⟨r,(RowKit.Below.heap_alloc _ _ _ (Array.getElem?_eq_some_iff.1 hr).1).trans hr⟩⟩,
  fun b c z _B O Z h1 h2 h3=>.inr ⟨b,c,z,O,Z,h1,h2,h3⟩⟩
theorem enter_ok (s:Sim P ρ m g h w) {base:Nat} {ds:List Deferred} (mk:Marks r fl base ds h m w) (fn:FuncId) (tmps:Array Value) (ps:Array Tmp) (x y:Code):∃ (mark:List Deferred) (w0:World) (rec:Loop),
  (Instr.enterLoop fn tmps ps x y r).run P w=.ok (w0.heap.size,mark) (w0.alloc (.loop rec))∧rec.state=.ready∧rec.pending=none∧rec.params=ps∧rec.tmps=tmps∧rec.assign=x∧rec.body=y ∧
  Tr P ρ g fl h n m w h n m w0∧Marks r fl base (mark ++ ds) h m w0:=by
 cases r with
 | none=>
  refine ⟨[{ target:=.collected w.heap.size,args:=#[] }],w.alloc (.deferred (some [])),{ state:=.ready,pending:=none,fn,tmps,params:=ps,assign:=x,body:=y,defers:=w.heap.size },?_,rfl,rfl,rfl,rfl,rfl,rfl,Tr.alloc s _,?_⟩
  ·have:=run_enterLoop_outer (P:=P) (w:=w) fn tmps ps x y
   rw [← World.size_alloc w (.deferred (some []))] at this
   exact this
  ·have T:=Tr.alloc (fl:=fl) (n:=n) s (.deferred (some []))
   have k:=mk.next T
   refine ⟨k.1,fun d hd=>?_,k.2.2.1,List.nodup_cons.2 ⟨fun hd=>?_,k.2.2.2⟩⟩
   ·rcases List.mem_cons.1 hd with rfl | hd
    ·exact ⟨_,mk.1,rfl,World.alloc_heap_new w _,fun b c z O Z _ h2 h3=>by have:=s.lt h2 h3; omega⟩
    ·exact k.2.1 d hd
   ·obtain ⟨D,_,h1,h3,_⟩:=mk.2.1 _ hd
    have:=(Array.getElem?_eq_some_iff.1 h3).1
    simp only [Deferred.mk.injEq,Target.collected.injEq] at h1
    omega
 | some l0=>
  obtain ⟨r0,h0⟩:=mk.2.2.1 l0 rfl
  exact ⟨[],w,{ state:=.ready,pending:=none,fn,tmps,params:=ps,assign:=x,body:=y,defers:=r0.defers },run_enterLoop_inner (P:=P) h0 fn tmps ps x y,rfl,rfl,rfl,rfl,rfl,rfl,Tr.refl s,mk⟩
theorem evL_len:∀ l:List RO,evL t l ≠ .un→chLen (evL t l)=some l.length
 | [],_=>rfl
 | x::l,hu=>by
  have e:evL t (x::l)=kons (ev t x) (evL t l):=rfl
  obtain ⟨_,h2,h3⟩:=kons_ok e.symm hu
  rw [h3]
  show gO none (chLen (evL t l)) (fun n=>some (Nat.succ n))=_
  rw [evL_len l h2]
  rfl
theorem evS_ok (F:Fr P ρ m nt t a.tmps) {is:List Nat} (hi:∀ i ∈ is,i < nt) (hu:evL t ((is.map fun i=>pa 20 (i + 1)).map RO.t) ≠ .un):denC ρ m (evL t ((is.map fun i=>pa 20 (i + 1)).map RO.t)) (is.map fun i=>a.tmps.getD i undef):=by
 have e:(is.map fun i=>pa 20 (i + 1)).map RO.t=(is.map Operand.tmp).map (opd P nt):=by
  rw [List.map_map,List.map_map]
  apply List.map_congr_left
  intro i hi'
  show RO.t (pa 20 (i + 1))=if i < nt then .t (pa 20 (i + 1)) else .c .un
  rw [if_pos (hi i hi')]
 rw [e] at hu ⊢
 have:=evL_ok F _ hu
 have e2:(is.map Operand.tmp).map a.eval=is.map fun i=>a.tmps.getD i undef:=by rw [List.map_map]; rfl
 rw [e2] at this
 exact this
theorem svOf_is (nt:Nat) (ps:List Pa) (A B:RC):∃ is:List Nat,svOf nt ps A B=is.map (fun i=>pa 20 (i + 1))∧∀ i ∈ is,i < nt:=
 ⟨_,rfl,fun i hi=>by simpa using (List.mem_filter.1 hi).1⟩
theorem loop_cells (F:Fr P ρ m nt t a.tmps) (hle:Le m m') {key:Nat} {is:List Nat} (hi:∀ i ∈ is,i < nt) (hu:evL t ((is.map fun i=>pa 20 (i + 1)).map RO.t) ≠ .un) :
  ∀ (j:Nat) (p:Pa),(is.map fun i=>pa 20 (i + 1))[j]?=some p→cg (cst (lay (.cons .np (evL t ((is.map fun i=>pa 20 (i + 1)).map RO.t))) ce 0) (.fn key (.b false)) 0) (1 + j) ≠ .un →
   den ρ m' (cg (cst (lay (.cons .np (evL t ((is.map fun i=>pa 20 (i + 1)).map RO.t))) ce 0) (.fn key (.b false)) 0) (1 + j)) (a.tmps.getD (p.val - 1) undef):=by
 intro j p hp hne
 have hs:=evS_ok F hi hu
 have hlen:=evL_len _ hu
 rw [cg_cst_ne _ _ (show 1 + j ≠ 0 by omega)] at hne ⊢
 have hd:denC ρ m (.cons .np (evL t ((is.map fun i=>pa 20 (i + 1)).map RO.t))) (.pointer none::is.map fun i=>a.tmps.getD i undef):=denC_cons.2 ⟨_,_,rfl,rfl,hs⟩
 have hl:chLen (.cons .np (evL t ((is.map fun i=>pa 20 (i + 1)).map RO.t)))=some (((is.map fun i=>pa 20 (i + 1)).map RO.t).length + 1):=by
  show gO none (chLen (evL t _)) (fun n=>some (Nat.succ n))=_
  rw [hlen]; rfl
 rcases lay_ok _ _ ce 0 hl hd (1 + j) hne with ⟨_,_,v,h2,h3⟩ | ⟨_,h2⟩
 ·rw [Nat.sub_zero,Nat.add_comm 1 j,List.getElem?_cons_succ,List.getElem?_map] at h2
  rw [List.getElem?_map] at hp
  cases hj:is[j]? with
  | none=>rw [hj] at hp; cases hp
  | some i=>
   rw [hj] at hp h2
   have hii:=hi i (List.mem_of_getElem? hj)
   have hp':pa 20 (i + 1)=p:=Option.some.inj hp
   have hv':a.tmps.getD i undef=v:=Option.some.inj h2
   have hsm:=F.small
   have hval:p.val=i + 1:=by rw [← hp',pa_val 20 (i + 1) (by omega) (by show i + 1 < 1048576; omega)]
   rw [hval,Nat.add_sub_cancel,hv']
   exact den_le hle h3
 ·rw [h2] at hne; exact absurd rfl hne
theorem rfC_parts {F0:BR} {g0:RO} {key:Nat} {sv:List Pa} (hX:rfC cl fl g0 key sv t h n=F0) (hne:∀ l,BR.bad l ≠ F0):∃ f c v h2 n2 cs k s,ev t g0=.fn f c∧f < BND∧evL t (sv.map RO.t) ≠ .un∧fl≤n ∧
  cl f (.cons (.fn (33554432 + key) (.cons (.mp n) .nil)) c) fl (hst h (.bk (cst (lay (.cons .np (evL t (sv.map RO.t))) ce 0) (.fn key (.b false)) 0) MAPZ) n) (n + 1)=.ok v h2 n2 ∧
  hg h2 n=.bk cs MAPZ∧cg cs 0=.fn k s∧((s=.b false∧F0=.nx t (hst h2 .no n) n2) ∨ (s=.nil∧F0=.rt t (hst h2 .no n) n2) ∨ ∃ id o,s=.p id o∧F0=.ex id t (hst h2 .no n) n2):=by
 unfold rfC at hX
 obtain ⟨f,c,h1,e1⟩:=gF_ok hX (hne _)
 rcases bf_or e1 with ⟨_,e2⟩ | ⟨hlt,e2⟩
 ·exact absurd e2 (hne _)
 obtain ⟨h3,e3⟩:=nU_ok e2 (hne _)
 obtain ⟨h4,e4⟩:=bf_ok e3 (hne _)
 rw [fT_eq,fT_eq,fT_eq] at e4
 cases hcl:cl f (.cons (.fn (Nat.add 33554432 key) (.cons (.mp n) .nil)) c) fl (hst h (.bk (cst (lay (.cons .np (evL t (sv.map RO.t))) ce 0) (.fn key (.b false)) 0) MAPZ) n) (Nat.succ n) with
 | bad l=>rw [hcl] at e4; exact absurd e4 (hne _)
 | ok v h2 n2=>
  rw [hcl] at e4
  have e5:gMK (BR.bad [183]) (hg h2 n) (fun cs=>fT (hst h2 .no n) fun h'=>rfState (cg cs 0) t h' n2)=F0:=e4
  obtain ⟨cs,h5,e6⟩:=gMK_ok e5 (hne _)
  rw [fT_eq] at e6
  unfold rfState at e6
  obtain ⟨k,s,h6,e7⟩:=gF_ok e6 (hne _)
  refine ⟨f,c,v,h2,n2,cs,k,s,h1,?_,h3,ble_ok h4,hcl,h5,h6,?_⟩
  ·rcases Nat.lt_or_ge f BND with q | q
   ·exact q
   ·rw [Nat.ble_eq_true_of_le q] at hlt; cases hlt
  ·cases s <;> first | exact absurd e7 (hne _) | skip
   ·rename_i busy
    have e8:bf busy (BR.bad [187]) (.nx t (hst h2 .no n) n2)=F0:=e7
    cases busy with
    | true=>exact absurd e8 (hne _)
    | false=>exact .inl ⟨rfl,e8.symm⟩
   ·rename_i id o
    exact .inr (.inr ⟨id,o,rfl,e7.symm⟩)
   ·exact .inr (.inl ⟨rfl,e7.symm⟩)
theorem brIs_ne {R:BR} {e:Exit} {t':FT} (hr:brIs R e t' h' n'):∀ l,BR.bad l ≠ R:=fun l q=>brIs_bad (by rw [q]; exact hr)
theorem rf_ok (hnt:nt < 1000000) (hcl:ClOk P ρ g cl) (hgf:g≤fl) {g0:Operand} {ps:Array Tmp} {x y:Code} {fi i:Nat} (hi:i < 256) (hl:loopAt P (keyAt fi i)=some (fi,nt,ps,x,y)) (hps:ps.toList.all (fun t=>decide (t < nt))=true) :
  BdOk r P ρ g fl nt (rfC cl fl (opd P nt g0) (keyAt fi i) (svOf nt (slotsOf ps) (comp P nt fi x (i + 1)) (comp P nt fi y (i + 1 + (rngs x).length)))) (fun Q a w=>(Code.rangeFunc g0 ps x y).wpIn (WF r) 0 P Q a w):=by
 intro t h n e t' h' n' hr hf
 have hne:=brIs_ne hr
 generalize hX:rfC cl fl (opd P nt g0) (keyAt fi i) (svOf nt (slotsOf ps) (comp P nt fi x (i + 1)) (comp P nt fi y (i + 1 + (rngs x).length))) t h n=X at *
 obtain ⟨f,c,v,h2,n2,cs,k,s,q1,q2,q3,q4,q5,q6,q7,q8⟩:=rfC_parts hX hne
 have hR:compR P (keyAt fi i)=some (.r (keyAt fi i) (svOf nt (slotsOf ps) (comp P nt fi x (i + 1)) (comp P nt fi y (i + 1 + (rngs x).length))).length (svOf nt (slotsOf ps) (comp P nt fi x (i + 1)) (comp P nt fi y (i + 1 + (rngs x).length))) (slotsOf ps) (comp P nt fi x (i + 1)) (comp P nt fi y (i + 1 + (rngs x).length))):=by
  unfold compR
  rw [hl]
  have hmod:keyAt fi i % 256=i:=by unfold keyAt; omega
  simp only [Option.bind_eq_bind,Option.bind_some,hmod,hps,Bool.and_true,decide_eq_true_eq]
  rw [if_pos hnt]
 obtain ⟨is,his,hin⟩:=svOf_is nt (slotsOf ps) (comp P nt fi x (i + 1)) (comp P nt fi y (i + 1 + (rngs x).length))
 generalize svOf nt (slotsOf ps) (comp P nt fi x (i + 1)) (comp P nt fi y (i + 1 + (rngs x).length))=sv at *
 subst his
 generalize hcells:cst (lay (.cons .np (evL t ((is.map fun i=>pa 20 (i + 1)).map RO.t))) ce 0) (.fn (keyAt fi i) (.b false)) 0=cells at *
 obtain ⟨ab,hc1,_⟩:=hcl f _ fl _ _ _ _ _ q5 hgf (Nat.le_trans q4 (Nat.le_succ n))
 obtain ⟨hkn,hcall⟩:=hc1 q2
 have abN:Ab fl h n (hst h (.bk cells MAPZ) n) (n + 1):=Ab.new _ q4
 have abT:Ab fl h n (hst h2 .no n) n2:=(abN.trans ab).trans (Ab.set .no q4 (fun _ _ q=>by cases q))
 have fin:t'=t∧h'=hst h2 .no n∧n'=n2:=by
  rcases q8 with ⟨_,rfl⟩ | ⟨_,rfl⟩ | ⟨id,o,_,rfl⟩
  ·obtain ⟨_,h1,h3,h4⟩:=brIs_nx.1 hr; exact ⟨h1,h3,h4⟩
  ·obtain ⟨_,h1,h3,h4⟩:=brIs_rt.1 hr; exact ⟨h1,h3,h4⟩
  ·obtain ⟨_,h1,h3,h4⟩:=brIs_ex.1 hr; exact ⟨h1,h3,h4⟩
 obtain ⟨rfl,rfl,rfl⟩:=fin
 refine ⟨abT,fun a m w F s0 fr base mk Q hQ=>?_⟩
 have dg:=opd_ok F g0 (by rw [q1]; simp)
 rw [q1] at dg
 obtain ⟨caps,hcaps,hgv⟩:=dg
 rw [fnV_lt q2] at hgv
 have hmn:m n=none:=fr n (Nat.le_refl _) (Nat.lt_of_lt_of_le (Nat.lt_succ_self _) ab.le)
 refine wpIn_rangeFunc fun fn hfn=>?_
 obtain ⟨mark,w0,rec,g1,g2,g3,g4,g5,g6,g7,T0,mk0⟩:=enter_ok (fl:=fl) (n:=n) s0 mk fn a.tmps ps x y
 have hle:Le m (upd m n (w0.heap.size,0,0)):=upd_le hmn
 have hSpec:Spec P ρ (upd m n (w0.heap.size,0,0)) cells (0,0) (.loop rec):=by
  refine ⟨keyAt fi i,.b false,_,_,_,_,_,fi,nt,?_,?_,by rw [g4,g6,g7]; exact hl,hR,by rw [g5]; exact F.size,?_⟩
  ·rw [← hcells]; exact cg_cst_in _ _ 0 (by decide)
  ·rw [g2,g3]; exact .ready
  ·rw [g5,← hcells]; exact loop_cells F hle hin q3
 have T1:=Tr.newMap (fl:=fl) T0.sim hmn hSpec
 have F1:Fr P ρ (upd m n (w0.heap.size,0,0)) nt t' a.tmps:=F.le hle
 have fr1:Fresh (n + 1) n' (upd m n (w0.heap.size,0,0)):=fun b h1 h3=>by unfold upd; rw [if_neg (by omega)]; exact fr b (by omega) h3
 have hC:=hcall _ _ (.func (.yield w0.heap.size) #[] #[]::caps) T1.sim F1.glob (denC_cons.2 ⟨_,_,rfl,⟨[.map (some w0.heap.size)],denC_cons.2 ⟨_,_,rfl,⟨w0.heap.size,0,0,upd_self _ _,rfl⟩,denC_nil.2 rfl⟩,(fnV_yield _ _).symm⟩,den_le hle hcaps⟩) fr1
 refine ⟨w0.heap.size,mark,w0.alloc (.loop rec),{ target:=.fn (.func f) caps.toArray,args:=#[.func (.yield w0.heap.size) #[] #[]] },w0.alloc (.loop rec),f,#[.func (.yield w0.heap.size) #[] #[]] ++ caps.toArray,w0.alloc (.loop rec),g1,?_,fun _ _=>trivial,?_,fun q=>(by cases q),?_⟩
 ·simp only [resolve,hgv]
  simp [Deferred.ofValue,Act.eval]
 ·simp [invoke,known_run hkn]
 ·have hargs:(.func (.yield w0.heap.size) #[] #[]::caps:List Value).toArray=#[.func (.yield w0.heap.size) #[] #[]] ++ caps.toArray:=by apply Array.ext'; simp
  rw [hargs] at hC
  refine (calls_wf hC).mono ?_
  rintro e3 w3 ⟨u,m3,rfl,T2,_⟩
  obtain ⟨B,O,Z,rec3,r1,r2,r3⟩:=T2.sim.loop q6 q7
  have hB:B=w0.heap.size:=by
   have:=T2.ext n (.inl (Nat.lt_succ_self n))
   rw [r1,upd_self] at this
   cases this; rfl
  subst hB
  obtain ⟨key3,s3,nv3,sv3,psl3,A3,B3,f3,nt3,p1,p2,p3,p4,p5,p6⟩:=r3
  rw [q7] at p1
  cases p1
  have hnb:rec3.state ≠ .busy:=by
   intro hb
   generalize rec3.state=st at p2 hb
   generalize rec3.pending=pe at p2
   subst hb
   rcases q8 with ⟨rfl,_⟩ | ⟨rfl,_⟩ | ⟨id,o,rfl,_⟩ <;> cases p2
  have hEnd:=run_endLoop (P:=P) r2 hnb
  have T3:Tr P ρ g fl h2 n' m3 w3 (hst h2 (.bk (cst cs (.fn k .np) 0) MAPZ) n) n' m3 { w3 with heap:=w3.heap.setIfInBounds w0.heap.size (.loop { rec3 with state:=.exhausted }) }:=by
   refine Tr.setMap (ob':=.loop { rec3 with state:=.exhausted }) T2.sim q6 (Nat.le_trans hgf q4) q4 r1 r2 ?_ (fun _ _=>⟨_,rfl⟩)
   refine ⟨k,.np,nv3,sv3,psl3,A3,B3,f3,nt3,cg_cst_in _ _ 0 (by decide),.gone _,p3,p4,p5,fun j p hj hu=>?_⟩
   rw [cg_cst_ne _ _ (by omega)] at hu ⊢
   exact p6 j p hj hu
  have T4:Tr P ρ g fl h2 n' m3 w3 (hst h2 .no n) n' m3 { w3 with heap:=w3.heap.setIfInBounds w0.heap.size (.loop { rec3 with state:=.exhausted }) }:=by
   refine T3.trans (Tr.sub T3.sim fun b c1 z1 hb=>?_) (Nat.le_refl _) (Nat.le_refl _)
   rcases hg_hst h2 .no n b with ⟨_,h3 | h3⟩ | ⟨h3,h4⟩
   ·rw [h3] at hb; cases hb
   ·rw [h3] at hb; cases hb
   ·rw [h4] at hb
    rcases hg_hst h2 (.bk (cst cs (.fn k .np) 0) MAPZ) n b with ⟨h5,_⟩ | ⟨_,h5⟩
    ·exact absurd h5 h3
    ·rw [h5]; exact hb
  obtain ⟨w4,hw4⟩:∃ w4:World,w4={ w3 with heap:=w3.heap.setIfInBounds w0.heap.size (.loop { rec3 with state:=.exhausted }) }:=⟨_,rfl⟩
  rw [← hw4] at T4
  have hEnd':(Instr.endLoop w0.heap.size).run P w3=.ok rec3.pending w4:=by rw [hw4]; exact hEnd
  clear hw4 hEnd T3
  have TT:=((T0.trans T1 (Nat.le_refl _) (Nat.le_succ _)).trans T2 (Nat.le_succ _) ab.le).trans T4 (Nat.le_trans (Nat.le_succ _) ab.le) (Nat.le_refl _)
  have mkE:=((mk0.next T1).next T2).next T4
  have FE:Fr P ρ m3 nt t' a.tmps:=F.le (TT.ext.le fr)
  refine ⟨rec3.pending,w4,hEnd',?_⟩
  rcases q8 with ⟨rfl,rfl⟩ | ⟨rfl,rfl⟩ | ⟨id,o,rfl,rfl⟩
  ·obtain ⟨rfl,_⟩:=brIs_nx.1 hr
   have hp:rec3.pending=none:=by
    generalize rec3.state=st at p2; generalize rec3.pending=pe at p2 ⊢; cases p2; rfl
   rw [hp]
   exact hQ _ _ _ mkE FE TT
  ·obtain ⟨rfl,_⟩:=brIs_rt.1 hr
   have hp:rec3.pending=some .ret:=by
    generalize rec3.state=st at p2; generalize rec3.pending=pe at p2 ⊢; cases p2; rfl
   rw [hp]
   exact wpIn_ret (hQ _ _ _ mkE FE TT)
  ·obtain ⟨rfl,_⟩:=brIs_ex.1 hr
   have hp:rec3.pending=some (.exit id):=by
    generalize rec3.state=st at p2; generalize rec3.pending=pe at p2 ⊢; cases p2; rfl
   rw [hp]
   exact wpIn_exit (hQ _ _ _ mkE FE TT)
end Go.Rn
namespace Go.Rn
variable {ρ:Nat→Int} {m m':Mp} {P:Program}
variable {g fl n n' nt:Nat} {h h':HT} {t:FT} {a:Act} {w:World} {v:RV} {ys:Ys} {cl:Cl'}
abbrev Wp (r:Option Nat) (P:Program) (c:Code):(Exit→Act→World→Prop)→Act→World→Prop:=fun Q a w=>c.wpIn (WF r) 0 P Q a w
variable {r:Option Nat}
theorem Tr.frame {h2:HT} {n2:Nat} {m2:Mp} {w2:World} (T:Tr P ρ g fl h n m w h2 n2 m2 w2) (f:Fresh n n2 m) {nt:Nat} {t:FT} {tmps:Array Value} (F:Fr P ρ m nt t tmps):Fr P ρ m2 nt t tmps:=F.le (T.ext.le f)
theorem bd_andThen {A B:Bd} {X:Code} {W:(Exit→Act→World→Prop)→Act→World→Prop} (hA:BdOk r P ρ g fl nt A (Wp r P X)) {WB:(Exit→Act→World→Prop)→Act→World→Prop} (hB:BdOk r P ρ g fl nt B WB)
  (hW:∀ Q a w,X.wpIn (WF r) 0 P (Exit.then (WB Q) Q) a w→W Q a w):BdOk r P ρ g fl nt (fun t h n=>andThen (A t h n) B) W:=by
 intro t h n e t' h' n' hr hf
 have hr1:brIs (andThen (A t h n) B) e t' h' n':=hr
 cases hA1:A t h n with
 | nx t1 h1 n1=>
  rw [hA1] at hr1
  obtain ⟨ab1,k1⟩:=hA t h n .normal t1 h1 n1 (by rw [hA1]; exact brIs_nx.2 ⟨rfl,rfl,rfl,rfl⟩) hf
  obtain ⟨ab2,k2⟩:=hB t1 h1 n1 e t' h' n' hr1 (Nat.le_trans hf ab1.le)
  refine ⟨ab1.trans ab2,fun a m w F s fr base mk Q hQ=>hW _ _ _ (k1 a m w F s (fr.left ab2.le) base mk _ fun a1 w1 m1 d1 F1 T1=>?_)⟩
  exact k2 a1 m1 w1 F1 T1.sim (fr.right T1.ext ab1.le) base d1 Q fun a2 w2 m2 d2 F2 T2=>hQ a2 w2 m2 d2 F2 (T1.trans T2 ab1.le ab2.le)
 | ex id t1 h1 n1=>
  rw [hA1] at hr1
  obtain ⟨rfl,rfl,rfl,rfl⟩:=brIs_ex.1 (show brIs (.ex id t1 h1 n1) e t' h' n' from hr1)
  obtain ⟨ab1,k1⟩:=hA t h n (.exit id) t' h' n' (by rw [hA1]; exact brIs_ex.2 ⟨rfl,rfl,rfl,rfl⟩) hf
  exact ⟨ab1,fun a m w F s fr base mk Q hQ=>hW _ _ _ (k1 a m w F s fr base mk _ fun a1 w1 m1 d1 F1 T1=>hQ a1 w1 m1 d1 F1 T1)⟩
 | rt t1 h1 n1=>
  rw [hA1] at hr1
  obtain ⟨rfl,rfl,rfl,rfl⟩:=brIs_rt.1 (show brIs (.rt t1 h1 n1) e t' h' n' from hr1)
  obtain ⟨ab1,k1⟩:=hA t h n .ret t' h' n' (by rw [hA1]; exact brIs_rt.2 ⟨rfl,rfl,rfl,rfl⟩) hf
  exact ⟨ab1,fun a m w F s fr base mk Q hQ=>hW _ _ _ (k1 a m w F s fr base mk _ fun a1 w1 m1 d1 F1 T1=>hQ a1 w1 m1 d1 F1 T1)⟩
 | bad l=>rw [hA1] at hr1; exact absurd hr1 brIs_bad
def RdOk (r:Option Nat) (P:Program) (ρ:Nat→Int) (g fl nt:Nat) (F:Bd) (X:Code) (k:Nat):Prop:=∀ t h n e t' h' n',brIs (F t h n) e t' h' n'→fl≤n →
 Ab fl h n h' n'∧∀ (a:Act) (m:Mp) (w:World),Fr P ρ m nt t a.tmps→Sim P ρ m g h w→Fresh n n' m→∀ base,Marks r fl base a.defers h m w→∀ (N:Nat) (Q:Exit→Act→World→Prop),
  (∀ a' w' m',Marks r fl base a'.defers h' m' w'→Fr P ρ m' nt t' a'.tmps→Tr P ρ g fl h n m w h' n' m' w'→Exit.then (Code.roundsIn (WF r) 0 P X Q N) Q e a' w')→Code.roundsIn (WF r) 0 P X Q (N + k) a w
theorem rd_rounds {A:Bd} {X:Code} (hA:BdOk r P ρ g fl nt A (Wp r P X)):∀ k,RdOk r P ρ g fl nt (rounds A k) X (2 ^ k)
 | 0=>by
  intro t h n e t' h' n' hr hf
  obtain ⟨ab1,k1⟩:=hA t h n e t' h' n' hr hf
  refine ⟨ab1,fun a m w F s fr base mk N Q hQ=>?_⟩
  show Code.roundsIn (WF r) 0 P X Q (N + 1) a w
  rw [roundsIn_succ]
  exact k1 a m w F s fr base mk _ hQ
 | k + 1=>by
  have ih:=rd_rounds hA k
  intro t h n e t' h' n' hr hf
  have hr1:brIs (andThen (rounds A k t h n) (rounds A k)) e t' h' n':=hr
  have e2:∀ N,N + 2 ^ (k + 1)=(N + 2 ^ k) + 2 ^ k:=fun N=>by rw [Nat.pow_succ]; omega
  cases hA1:rounds A k t h n with
  | nx t1 h1 n1=>
   rw [hA1] at hr1
   obtain ⟨ab1,k1⟩:=ih t h n .normal t1 h1 n1 (by rw [hA1]; exact brIs_nx.2 ⟨rfl,rfl,rfl,rfl⟩) hf
   obtain ⟨ab2,k2⟩:=ih t1 h1 n1 e t' h' n' hr1 (Nat.le_trans hf ab1.le)
   refine ⟨ab1.trans ab2,fun a m w F s fr base mk N Q hQ=>?_⟩
   rw [e2]
   refine k1 a m w F s (fr.left ab2.le) base mk (N + 2 ^ k) Q fun a1 w1 m1 d1 F1 T1=>?_
   exact k2 a1 m1 w1 F1 T1.sim (fr.right T1.ext ab1.le) base d1 N Q fun a2 w2 m2 d2 F2 T2=>hQ a2 w2 m2 d2 F2 (T1.trans T2 ab1.le ab2.le)
  | ex id t1 h1 n1=>
   rw [hA1] at hr1
   obtain ⟨rfl,rfl,rfl,rfl⟩:=brIs_ex.1 (show brIs (.ex id t1 h1 n1) e t' h' n' from hr1)
   obtain ⟨ab1,k1⟩:=ih t h n (.exit id) t' h' n' (by rw [hA1]; exact brIs_ex.2 ⟨rfl,rfl,rfl,rfl⟩) hf
   exact ⟨ab1,fun a m w F s fr base mk N Q hQ=>by rw [e2]; exact k1 a m w F s fr base mk _ Q fun a1 w1 m1 d1 F1 T1=>hQ a1 w1 m1 d1 F1 T1⟩
  | rt t1 h1 n1=>
   rw [hA1] at hr1
   obtain ⟨rfl,rfl,rfl,rfl⟩:=brIs_rt.1 (show brIs (.rt t1 h1 n1) e t' h' n' from hr1)
   obtain ⟨ab1,k1⟩:=ih t h n .ret t' h' n' (by rw [hA1]; exact brIs_rt.2 ⟨rfl,rfl,rfl,rfl⟩) hf
   exact ⟨ab1,fun a m w F s fr base mk N Q hQ=>by rw [e2]; exact k1 a m w F s fr base mk _ Q fun a1 w1 m1 d1 F1 T1=>hQ a1 w1 m1 d1 F1 T1⟩
  | bad l=>rw [hA1] at hr1; exact absurd hr1 brIs_bad
theorem ops_nx:∀ (l:List RQ) (t:FT) (h:HT) (n:Nat),(∃ a b c,ops ys cl fl l t h n=.nx a b c) ∨ ∃ k,ops ys cl fl l t h n=.bad k
 | [],t,h,n=>.inl ⟨t,h,n,rfl⟩
 | .q d g _ o::l,t,h,n=>by
  show (∃ a b c,opsW ys cl fl d o (ops ys cl fl l) t h n (want t g)=.nx a b c) ∨ ∃ k,opsW ys cl fl d o (ops ys cl fl l) t h n (want t g)=.bad k
  cases want t g with
  | y=>
   show (∃ a b c,opsOk d t (step o ys cl fl 1152921504606846976 t h n) (ops ys cl fl l)=.nx a b c) ∨ ∃ k,opsOk d t (step o ys cl fl 1152921504606846976 t h n) (ops ys cl fl l)=.bad k
   cases step o ys cl fl 1152921504606846976 t h n with
   | ok v h1 n1=>
    show (∃ a b c,fT (put t d v) (fun t=>ops ys cl fl l t h1 n1)=.nx a b c) ∨ ∃ k,fT (put t d v) (fun t=>ops ys cl fl l t h1 n1)=.bad k
    rw [fT_eq]; exact ops_nx l _ _ _
   | bad k=>exact .inr ⟨k,rfl⟩
  | n=>
   show (∃ a b c,fT (put t d .ud) (fun t=>ops ys cl fl l t h n)=.nx a b c) ∨ ∃ k,fT (put t d .ud) (fun t=>ops ys cl fl l t h n)=.bad k
   rw [fT_eq]; exact ops_nx l _ _ _
  | u=>exact .inr ⟨[99],rfl⟩
theorem stepR_scope {b:Frame} {a:Act} {k:List Item} {cs:List Frame} {w:World} {c:Code}:Go.step P (lone (b.atR a (.code (.scope c)::k)) cs w)=.next (lone (b.atR a (.code c::.inScope c::k)) cs w):=
 step_lone_go (by simp [stepG,stepG.exec,Frame.atR])
theorem stepR_inScope {b:Frame} {a:Act} {k:List Item} {cs:List Frame} {w:World} {c:Code}:Go.step P (lone (b.atR a (.inScope c::k)) cs w)=.next (lone (b.atR a k) cs w):=
 step_lone_go (by simp [stepG,stepG.exec,Frame.atR])
theorem wpIn_scope_straight {F:Fence} {n:Nat} {Q:Exit→Act→World→Prop} {c:Code} (h:c.wpIn F n P (Exit.noGoto Q) a w):(Code.scope c).wpIn F n P Q a w:=by
 intro b k cs hro hb hr
 obtain ⟨e,a₁,w₁,hq,harr⟩:=h b (.inScope c::k) cs hro hb hr
 cases e with
 | normal=>exact ⟨.normal,a₁,w₁,hq,.head (fenced_calm hb hr rfl) stepR_scope (StepsIn.trans harr (.one (fenced_calm hb hr rfl) stepR_inScope))⟩
 | exit id=>exact ⟨.exit id,a₁,w₁,hq,.of_steps (e:=.exit id) (.one (fenced_calm hb hr rfl) stepR_scope) ⟨fun k' hk=>harr.1 k' (by simpa [exitTo] using hk),fun h1 h2=>harr.2 h1 (by simpa [exitTo] using h2)⟩⟩
 | goto l=>exact hq.elim
 | ret=>exact ⟨_,a₁,w₁,hq,.of_steps (.one (fenced_calm hb hr rfl) stepR_scope) harr⟩
 | panic ch=>exact ⟨_,a₁,w₁,hq,.of_steps (.one (fenced_calm hb hr rfl) stepR_scope) harr⟩
 | outgrown=>exact ⟨_,a₁,w₁,hq,.of_steps (.one (fenced_calm hb hr rfl) stepR_scope) harr⟩
def DrOk (r:Option Nat) (P:Program) (ρ:Nat→Int) (g fl nt:Nat) (ys:Ys) (cl:Cl'):Prop:=∀ id (os:Array Oper),BdOk r P ρ g fl nt (fun t h n=>dops ys cl fl n (compDr P nt os) t h n [] [h]) (Wp r P (.region id os true))
theorem code_ok {fi:Nat} (hnt:nt < 1000000) (hy:YsOk ρ ys) (hcl:ClOk P ρ g cl) (hgf:g≤fl) (hdr:DrOk r P ρ g fl nt ys cl):∀ (c:Code) (i:Nat),(∀ (j:Nat) (x:Array Tmp × Code × Code),(rngs c)[j]?=some x→i + j < 256∧loopAt P (keyAt fi (i + j))=some (fi,nt,x.1,x.2.1,x.2.2))→BdOk r P ρ g fl nt (code ys cl fl (comp P nt fi c i)) (Wp r P c)
 | .skip,i,hi=>by
  intro t h n e t' h' n' hr hf
  obtain ⟨rfl,rfl,rfl,rfl⟩:=brIs_nx.1 (show brIs (.nx t h n) e t' h' n' from hr)
  exact ⟨Ab.refl _ _ _,fun a m w F s _ base mk Q hQ=>wpIn_skip (hQ a w m mk F (Tr.refl s))⟩
 | .label l,i,hi=>by
  intro t h n e t' h' n' hr hf
  obtain ⟨rfl,rfl,rfl,rfl⟩:=brIs_nx.1 (show brIs (.nx t h n) e t' h' n' from hr)
  exact ⟨Ab.refl _ _ _,fun a m w F s _ base mk Q hQ=>wpIn_label (hQ a w m mk F (Tr.refl s))⟩
 | .exit id,i,hi=>by
  intro t h n e t' h' n' hr hf
  obtain ⟨rfl,rfl,rfl,rfl⟩:=brIs_ex.1 (show brIs (.ex id t h n) e t' h' n' from hr)
  exact ⟨Ab.refl _ _ _,fun a m w F s _ base mk Q hQ=>wpIn_exit (hQ a w m mk F (Tr.refl s))⟩
 | .ret,i,hi=>by
  intro t h n e t' h' n' hr hf
  obtain ⟨rfl,rfl,rfl,rfl⟩:=brIs_rt.1 (show brIs (.rt t h n) e t' h' n' from hr)
  exact ⟨Ab.refl _ _ _,fun a m w F s _ base mk Q hQ=>wpIn_ret (hQ a w m mk F (Tr.refl s))⟩
 | .region id os d,i,hi=>by
  cases d with
  | true=>exact hdr id os
  | false=>
   intro t h n e t' h' n' hr hf
   obtain ⟨ab,k⟩:=ops_ok hy hcl hgf (os:=os) (nt:=nt) os.toList 0 (fun i o hi=>by simpa using hi) t h n e t' h' n' hr hf
   have hen:e=.normal:=by
    have hr1:brIs (ops ys cl fl (compReg P nt os) t h n) e t' h' n':=hr
    rcases ops_nx (ys:=ys) (cl:=cl) (fl:=fl) (compReg P nt os) t h n with ⟨a,b,c,q⟩ | ⟨l,q⟩
    ·rw [q] at hr1; exact (brIs_nx.1 hr1).1
    ·rw [q] at hr1; exact absurd hr1 brIs_bad
   subst hen
   refine ⟨ab,fun a m w F s fr base mk Q hQ=>wpIn_region ?_⟩
   have:=k a m w F s fr base mk Q hQ
   simpa [List.range_eq_range'] using this
 | .seq x y,i,hi=>bd_andThen (code_ok hnt hy hcl hgf hdr x i (fun j z hj=>hi j z (by show (rngs x ++ rngs y)[j]?=_; rw [List.getElem?_append_left (List.getElem?_eq_some_iff.1 hj).1]; exact hj))) (code_ok hnt hy hcl hgf hdr y (i + (rngs x).length) (fun j z hj=>by have:=hi ((rngs x).length + j) z (by show (rngs x ++ rngs y)[_]?=_; rw [List.getElem?_append_right (by omega),Nat.add_sub_cancel_left]; exact hj); rwa [← Nat.add_assoc] at this)) (fun Q a w q=>wpIn_seq q)
 | .cond c x y,i,hi=>by
  have hx0:∀ (j:Nat) (z:Array Tmp × Code × Code),(rngs x)[j]?=some z→i + j < 256∧loopAt P (keyAt fi (i + j))=some (fi,nt,z.1,z.2.1,z.2.2):=fun j z hj=>hi j z (by show (rngs x ++ rngs y)[j]?=_; rw [List.getElem?_append_left (List.getElem?_eq_some_iff.1 hj).1]; exact hj)
  have hy0:∀ (j:Nat) (z:Array Tmp × Code × Code),(rngs y)[j]?=some z→i + (rngs x).length + j < 256∧loopAt P (keyAt fi (i + (rngs x).length + j))=some (fi,nt,z.1,z.2.1,z.2.2):=fun j z hj=>by
   have:=hi ((rngs x).length + j) z (by show (rngs x ++ rngs y)[_]?=_; rw [List.getElem?_append_right (by omega),Nat.add_sub_cancel_left]; exact hj)
   rwa [← Nat.add_assoc] at this
  intro t h n e t' h' n' hr hf
  have hr1:brIs (cdC (ev t (opd P nt c)) (code ys cl fl (comp P nt fi x i)) (code ys cl fl (comp P nt fi y (i + (rngs x).length))) t h n) e t' h' n':=hr
  unfold cdC at hr1
  cases hc:ev t (opd P nt c) <;> rw [hc] at hr1 <;> first | exact absurd hr1 brIs_bad | skip
  rename_i b
  have hv:∀ {a:Act} {m:Mp},Fr P ρ m nt t a.tmps→a.eval c=.bool b:=fun {a} {m} F=>by
   have:=opd_ok F c (by rw [hc]; simp)
   rw [hc] at this
   exact this
  cases b with
  | true=>
   obtain ⟨ab,k⟩:=code_ok hnt hy hcl hgf hdr x i hx0 t h n e t' h' n' hr1 hf
   exact ⟨ab,fun a m w F s fr base mk Q hQ=>wpIn_cond_true (hv F) (k a m w F s fr base mk Q hQ)⟩
  | false=>
   obtain ⟨ab,k⟩:=code_ok hnt hy hcl hgf hdr y _ hy0 t h n e t' h' n' hr1 hf
   exact ⟨ab,fun a m w F s fr base mk Q hQ=>wpIn_cond_false (hv F) (k a m w F s fr base mk Q hQ)⟩
 | .block id x,i,hi=>by
  intro t h n e t' h' n' hr hf
  have hr1:brIs (blC (code ys cl fl (comp P nt fi x i) t h n) id) e t' h' n':=hr
  cases hA:code ys cl fl (comp P nt fi x i) t h n with
  | nx t1 h1 n1=>
   rw [hA] at hr1
   obtain ⟨rfl,rfl,rfl,rfl⟩:=brIs_nx.1 (show brIs (.nx t1 h1 n1) e t' h' n' from hr1)
   obtain ⟨ab,k⟩:=code_ok hnt hy hcl hgf hdr x i hi t h n .normal t' h' n' (by rw [hA]; exact brIs_nx.2 ⟨rfl,rfl,rfl,rfl⟩) hf
   exact ⟨ab,fun a m w F s fr base mk Q hQ=>wpIn_block (k a m w F s fr base mk _ hQ)⟩
  | ex j t1 h1 n1=>
   rw [hA] at hr1
   have hr2:brIs (bf (Nat.beq j id) (.nx t1 h1 n1) (.ex j t1 h1 n1)) e t' h' n':=hr1
   cases hj:Nat.beq j id with
   | true=>
    rw [hj] at hr2
    obtain ⟨rfl,rfl,rfl,rfl⟩:=brIs_nx.1 (show brIs (.nx t1 h1 n1) e t' h' n' from hr2)
    obtain ⟨ab,k⟩:=code_ok hnt hy hcl hgf hdr x i hi t h n (.exit j) t' h' n' (by rw [hA]; exact brIs_ex.2 ⟨rfl,rfl,rfl,rfl⟩) hf
    refine ⟨ab,fun a m w F s fr base mk Q hQ=>wpIn_block (k a m w F s fr base mk _ fun a1 w1 m1 d F1 T1=>?_)⟩
    simp only [Exit.inBlock,beq_ok hj,if_true]
    exact hQ a1 w1 m1 d F1 T1
   | false=>
    rw [hj] at hr2
    obtain ⟨rfl,rfl,rfl,rfl⟩:=brIs_ex.1 (show brIs (.ex j t1 h1 n1) e t' h' n' from hr2)
    obtain ⟨ab,k⟩:=code_ok hnt hy hcl hgf hdr x i hi t h n (.exit j) t' h' n' (by rw [hA]; exact brIs_ex.2 ⟨rfl,rfl,rfl,rfl⟩) hf
    refine ⟨ab,fun a m w F s fr base mk Q hQ=>wpIn_block (k a m w F s fr base mk _ fun a1 w1 m1 d F1 T1=>?_)⟩
    have hne:¬ j=id:=fun q=>by subst q; simp at hj
    simp only [Exit.inBlock,hne,if_false]
    exact hQ a1 w1 m1 d F1 T1
  | rt t1 h1 n1=>
   rw [hA] at hr1
   obtain ⟨rfl,rfl,rfl,rfl⟩:=brIs_rt.1 (show brIs (.rt t1 h1 n1) e t' h' n' from hr1)
   obtain ⟨ab,k⟩:=code_ok hnt hy hcl hgf hdr x i hi t h n .ret t' h' n' (by rw [hA]; exact brIs_rt.2 ⟨rfl,rfl,rfl,rfl⟩) hf
   exact ⟨ab,fun a m w F s fr base mk Q hQ=>wpIn_block (k a m w F s fr base mk _ hQ)⟩
  | bad l=>rw [hA] at hr1; exact absurd hr1 brIs_bad
 | .loop x,i,hi=>by
  have hR:=rd_rounds (code_ok hnt hy hcl hgf hdr x i hi) 20
  intro t h n e t' h' n' hr hf
  have hr1:brIs (lpC (rounds (code ys cl fl (comp P nt fi x i)) 20 t h n)) e t' h' n':=hr
  cases hA:rounds (code ys cl fl (comp P nt fi x i)) 20 t h n with
  | nx t1 h1 n1=>rw [hA] at hr1; exact absurd hr1 brIs_bad
  | bad l=>rw [hA] at hr1; exact absurd hr1 brIs_bad
  | ex j t1 h1 n1=>
   rw [hA] at hr1
   obtain ⟨rfl,rfl,rfl,rfl⟩:=brIs_ex.1 (show brIs (.ex j t1 h1 n1) e t' h' n' from hr1)
   obtain ⟨ab,k⟩:=hR t h n (.exit j) t' h' n' (by rw [hA]; exact brIs_ex.2 ⟨rfl,rfl,rfl,rfl⟩) hf
   exact ⟨ab,fun a m w F s fr base mk Q hQ=>wpIn_loop_rounds _ (k a m w F s fr base mk 0 Q hQ)⟩
  | rt t1 h1 n1=>
   rw [hA] at hr1
   obtain ⟨rfl,rfl,rfl,rfl⟩:=brIs_rt.1 (show brIs (.rt t1 h1 n1) e t' h' n' from hr1)
   obtain ⟨ab,k⟩:=hR t h n .ret t' h' n' (by rw [hA]; exact brIs_rt.2 ⟨rfl,rfl,rfl,rfl⟩) hf
   exact ⟨ab,fun a m w F s fr base mk Q hQ=>wpIn_loop_rounds _ (k a m w F s fr base mk 0 Q hQ)⟩
 | .scope x,i,hi=>by
  intro t h n e t' h' n' hr hf
  obtain ⟨ab,k⟩:=code_ok hnt hy hcl hgf hdr x i hi t h n e t' h' n' hr hf
  refine ⟨ab,fun a m w F s fr base mk Q hQ=>wpIn_scope_straight (k a m w F s fr base mk _ fun a1 w1 m1 d1 F1 T1=>?_)⟩
  rcases hr with ⟨_,rfl⟩ | ⟨_,_,rfl⟩ | ⟨_,rfl⟩ <;> exact hQ a1 w1 m1 d1 F1 T1
 | .rangeFunc g0 ps x y,i,hi=>by
  obtain ⟨h1,h2⟩:=hi 0 (ps,x,y) rfl
  cases hps:ps.toList.all (fun t=>decide (t < nt)) with
  | false=>
   intro t h n e t' h' n' hr hf
   have e1:comp P nt fi (.rangeFunc g0 ps x y) i=.cd (.c .un) .sk .sk:=if_pos hps
   rw [e1] at hr
   exact absurd (show brIs (.bad [98]) e t' h' n' from hr) brIs_bad
  | true=>
   have e1:comp P nt fi (.rangeFunc g0 ps x y) i=.rf (opd P nt g0) (keyAt fi i) (svOf nt (slotsOf ps) (comp P nt fi x (i + 1)) (comp P nt fi y (i + 1 + (rngs x).length))):=if_neg (by rw [hps]; simp)
   rw [e1]
   exact rf_ok hnt hcl hgf h1 h2 hps
 | .goto ..,_,_ | .refuse ..,_,_=>by
  intro t h n e t' h' n' hr hf
  exact absurd (show brIs (.bad [98]) e t' h' n' from hr) brIs_bad
end Go.Rn
namespace Go.Rn
variable {ρ:Nat→Int} {m m':Mp} {P:Program}
variable {g fl n n' nt:Nat} {h h':HT} {t:FT} {a:Act} {w:World} {v:RV} {ys:Ys} {cl:Cl'}
def resSem (tmps:Array Value):ResultVar→Sem Value
 | .tmp t=>pure (tmps.getD t undef)
 | .cell a t=>do loadVar t (← asAddr (tmps.getD a undef))
theorem results_run {fn:Func} {tmps:Array Value} {w:World} {vs:List Value} (h:((fn.results.toList).mapM (resSem tmps)).run P w=.ok vs w) :
  (results fn tmps).run P w=.ok (if h:vs.length=1 then vs[0] else .tuple vs.toArray) w:=by
 have e:fn.results.mapM (resSem tmps)=(List.toArray <$> fn.results.toList.mapM (resSem tmps)):=Array.mapM_eq_mapM_toList
 have e2:(fn.results.mapM (resSem tmps)).run P w=.ok vs.toArray w:=by
  rw [e,map_eq_pure_bind]
  simp [h]
 have e3:results fn tmps=(fn.results.mapM (resSem tmps) >>= fun vs=>pure (if h:vs.size=1 then vs[0] else .tuple vs)):=by
  unfold results resSem
  congr 1
 rw [e3]
 simp [e2]
noncomputable def resR (t:FT) (h:HT):RS→RV
 | .t p=>tg t p
 | .c p g q=>resC h (tg t p) g q
theorem res_cons (t:FT) (h:HT) (x:RS) (l:List RS):res t h (x::l)=kons (resR t h x) (res t h l):=by cases x <;> rfl
theorem resOne_ok (F:Fr P ρ m nt t a.tmps) (s:Sim P ρ m g h w) {x:ResultVar} {y:RS} (hc:compRes P nt x=some y) (hu:resR t h y ≠ .un) :
  ∃ u,(resSem a.tmps x).run P w=.ok u w∧den ρ m (resR t h y) u:=by
 cases x with
 | tmp i=>
  simp only [compRes] at hc
  split at hc
  ·rename_i hi
   cases hc
   have e:resR t h (.t (pa 20 (i + 1)))=T.get .un t (i + 1):=tg_pa (Nat.lt_trans hi F.small)
   rw [e] at hu ⊢
   exact ⟨_,rfl,F.slot i hu⟩
  ·cases hc
 | cell i ty=>
  simp only [compRes,Option.bind_eq_bind,Option.bind_eq_some_iff] at hc
  obtain ⟨sz,hs,gg,hg',h1⟩:=hc
  split at h1
  ·rename_i hi
   cases h1
   have e:resR t h (.c (pa 20 (i + 1)) gg sz)=gP .un (T.get .un t (i + 1)) fun b o=>gK .un (hg h b) fun cs _=>bf gg (nU .un (rd cs sz o) fun c=>.agg c) (cg cs o):=by
    show resC h (tg t (pa 20 (i + 1))) gg sz=_
    rw [tg_pa (Nat.lt_trans hi F.small)]
    rfl
   rw [e] at hu ⊢
   obtain ⟨b,k,hb,e2⟩:=gP_ok (x:=gP .un (T.get .un t (i + 1)) fun b o=>gK .un (hg h b) fun cs _=>bf gg (nU .un (rd cs sz o) fun c=>.agg c) (cg cs o)) rfl (fun q=>hu q.symm)
   rw [← e2] at hu ⊢
   obtain ⟨c,z,hbk,e3⟩:=gK_ok (x:=gK .un (hg h b) fun cs _=>bf gg (nU .un (rd cs sz k) fun c=>.agg c) (cg cs k)) rfl (fun q=>hu q.symm)
   have hmz:=gK_mz (d:=RV.un) (x:=gK .un (hg h b) fun cs _=>bf gg (nU .un (rd cs sz k) fun c=>.agg c) (cg cs k)) rfl (fun q=>hu q.symm) hbk
   rw [← e3] at hu ⊢
   have hx:=F.slot i (by rw [hb]; simp)
   rw [hb] at hx
   obtain ⟨B,O,Z,hm,hx⟩:=hx
   obtain ⟨B',O',Z',C,el,fr,q1,q2,q3,hcl⟩:=cellAt s hbk hmz
   rw [hm] at q1
   cases q1
   have hcell:∀ j,w.cell? ⟨B,j,none⟩=C[j]?:=fun j=>by simp [World.cell?,q2]
   cases gg with
   | true=>
    have hu2:nU .un (rd c sz k) (fun c=>.agg c) ≠ RV.un:=hu
    obtain ⟨hu3,e5⟩:=nU_ok (x:=nU .un (rd c sz k) (fun c=>RV.agg c)) rfl (fun q=>hu2 q.symm)
    obtain ⟨_,cs,hl,hd,hc,hj⟩:=rd_ok q3 sz k hu3
    refine ⟨.agg cs.toArray,?_,?_⟩
    ·have hr:=run_loadCells_list (P:=P) w ⟨B,O + k,none⟩ cs (fun j u hu=>by
      rw [add_at,hcell]; exact hj j u hu)
     rw [hl] at hr
     simp [resSem,hx,asAddr,loadVar,aggOf_run hg',szOf_run hs,hr]
    ·show den ρ m (nU .un (rd c sz k) fun c=>.agg c) _
     rw [← e5]
     exact ⟨cs,hd,hc,rfl⟩
   | false=>
    have hu2:cg c k ≠ .un:=hu
    obtain ⟨u,hcu,hdu,_⟩:=q3 k hu2
    exact ⟨u,by simp [resSem,hx,asAddr,loadVar,aggOf_run hg',hcell,hcu],hdu⟩
  ·cases h1
theorem res_ok (F:Fr P ρ m nt t a.tmps) (s:Sim P ρ m g h w):∀ {l:List ResultVar} {rs:List RS},l.mapM (compRes P nt)=some rs→res t h rs ≠ .un →
  ∃ vs,(l.mapM (resSem a.tmps)).run P w=.ok vs w∧denC ρ m (res t h rs) vs
 | [],rs,hc,_=>by
  have:rs=[]:=by simpa using hc.symm
  subst this
  exact ⟨[],rfl,denC_nil.2 rfl⟩
 | x::l,rs,hc,hu=>by
  rw [List.mapM_cons] at hc
  simp only [Option.bind_eq_bind,Option.bind_eq_some_iff] at hc
  obtain ⟨y,hy,r,hr,h1⟩:=hc
  cases h1
  rw [res_cons] at hu ⊢
  obtain ⟨h2,h3,h4⟩:=kons_ok (y:=kons (resR t h y) (res t h r)) rfl hu
  rw [h4]
  obtain ⟨u,q1,q2⟩:=resOne_ok F s hy h2
  obtain ⟨vs,q3,q4⟩:=res_ok F s hr h3
  exact ⟨u::vs,by simp [List.mapM_cons,q1,q3],denC_cons.2 ⟨u,vs,rfl,q2,q4⟩⟩
theorem ret_ok (F:Fr P ρ m nt t a.tmps) (s:Sim P ρ m g h w) {fn:Func} {rs:List RS} (hc:fn.results.toList.mapM (compRes P nt)=some rs) (e:ret t h n rs=.ok v h' n') :
  h'=h∧n'=n∧∃ u,(results fn a.tmps).run P w=.ok u w∧den ρ m v u:=by
 unfold ret at e
 rcases gN_ok e (by simp) with ⟨h1,h2⟩ | ⟨x,r,h1,h2⟩
 ·cases h2
  obtain ⟨vs,q1,q2⟩:=res_ok F s hc (by rw [h1]; simp)
  rw [h1] at q2
  have:=denC_nil.1 q2
  subst this
  exact ⟨rfl,rfl,_,results_run q1,⟨[],denC_nil.2 rfl,rfl⟩⟩
 ·obtain ⟨vs,q1,q2⟩:=res_ok F s hc (by rw [h1]; simp)
  rw [h1] at q2
  obtain ⟨u,us,rfl,q3,q4⟩:=denC_cons.1 q2
  rcases gN_ok h2 (by simp) with ⟨h3,h4⟩ | ⟨y,r2,h3,h4⟩
  ·obtain ⟨_,rfl,rfl,rfl⟩:=okV_ok h4
   rw [h3] at q4
   have:=denC_nil.1 q4
   subst this
   exact ⟨rfl,rfl,_,results_run q1,q3⟩
  ·cases h4
   rw [h3] at q4
   obtain ⟨u2,us2,rfl,q5,q6⟩:=denC_cons.1 q4
   exact ⟨rfl,rfl,_,results_run q1,⟨u::u2::us2,denC_cons.2 ⟨u,_,rfl,q3,denC_cons.2 ⟨u2,us2,rfl,q5,q6⟩⟩,rfl⟩⟩
structure ShutD (base:Nat) (w w':World):Prop where
 os:w'.os=w.os
 tape:w'.tape=w.tape
 output:w'.output=w.output
 size:w'.heap.size=w.heap.size
 old:∀ k,k < base→w'.heap[k]?=w.heap[k]?
 same:∀ (k:Nat) (o:Obj),w.heap[k]?=some o→(∀ x,o ≠ .deferred x)→w'.heap[k]?=some o
theorem ShutD.refl (base:Nat) (w:World):ShutD base w w:=⟨rfl,rfl,rfl,rfl,fun _ _=>rfl,fun _ _ h _=>h⟩
theorem ShutD.trans {base:Nat} {w w1 w2:World} (a:ShutD base w w1) (b:ShutD base w1 w2):ShutD base w w2:=
 ⟨b.os.trans a.os,b.tape.trans a.tape,b.output.trans a.output,b.size.trans a.size,fun k hk=>(b.old k hk).trans (a.old k hk),fun k o h1 h2=>b.same k o (a.same k o h1 h2) h2⟩
theorem ShutD.put {base D:Nat} {w:World} (hD:base≤D) {x:Option (List Deferred)} (h:w.heap[D]?=some (.deferred x)):ShutD base w (w.putObj D (.deferred none)):=
 ⟨rfl,rfl,rfl,World.putObj_size,fun k hk=>World.putObj_heap_other (by omega),fun k o h1 h2=>by
  by_cases e:k=D
  ·subst e; rw [h] at h1; exact absurd (Option.some.inj h1).symm (h2 x)
  ·rw [World.putObj_heap_other e]; exact h1⟩
theorem Tr.shut {h1:HT} {n1:Nat} {m1:Mp} {w0 w1 w2:World} (T:Tr P ρ g fl h n m w0 h1 n1 m1 w1) (k:ShutD w0.heap.size w1 w2):Tr P ρ g fl h n m w0 h1 n1 m1 w2:=by
 refine ⟨⟨fun b c z hb=>?_,T.sim.inj⟩,T.ext,⟨k.os.trans T.keep.os,k.tape.trans T.keep.tape,k.output.trans T.keep.output,by rw [k.size]; exact T.keep.size,fun j hj hn=>(k.old j hj).trans (T.keep.block j hj hn),fun j r hr=>?_⟩,T.orig⟩
 ·obtain ⟨B,O,Z,q1,q2⟩:=T.sim.cell b c z hb
  refine ⟨B,O,Z,q1,q2.move ?_ (Le.refl _)⟩
  rcases q2 with ⟨_,C,el,fr,q3,_⟩ | ⟨_,o,q3,q4⟩
  ·rw [q3]; exact k.same _ _ q3 (fun x hx=>by cases hx)
  ·rw [q3]; exact k.same _ _ q3 (fun x hx=>by rw [hx] at q4; exact q4.elim)
 ·obtain ⟨r',hr'⟩:=T.keep.loops j r hr
  exact ⟨r',k.same _ _ hr' (fun x hx=>by cases hx)⟩
theorem leaves_ok {fn:Func} {tmps:Array Value} {R:Ending→World→Prop} {base:Nat}:∀ (ds:List Deferred) (w:World),ds.Nodup→(∀ d ∈ ds,∃ D,base≤D∧d={ target:=.collected D,args:=#[] }∧w.heap[D]?=some (.deferred (some []))) →
  (∀ w',ShutD base w w'→∃ v,(results fn tmps).run P w'=.ok v w'∧R (.returned v) w')→LeavesInM (WF none) 0 P fn tmps R ds .returning w
 | [],w,_,_,hR=>hR w (ShutD.refl _ _)
 | d::ds,w,hn,hd,hR=>by
  obtain ⟨D,h1,rfl,h3⟩:=hd d List.mem_cons_self
  refine ⟨by simp,.inl ⟨D,w.putObj D (.deferred none),rfl,run_takeDeferred h3,leaves_ok ds _ (List.nodup_cons.1 hn).2 (fun d' hd'=>?_) fun w' hw'=>hR w' ((ShutD.put h1 h3).trans hw')⟩⟩
  obtain ⟨D',q1,rfl,q3⟩:=hd d' (List.mem_cons_of_mem _ hd')
  refine ⟨D',q1,rfl,?_⟩
  have hne:D' ≠ D:=fun e=>by subst e; exact (List.nodup_cons.1 hn).1 hd'
  rw [World.putObj_heap_other hne]; exact q3
theorem one_ok (hy:YsOk ρ ys) (hdr:∀ (r:Option Nat) (cl:Cl') (fl nt:Nat),ClOk P ρ g cl→g≤fl→DrOk r P ρ g fl nt ys cl) {cl:Cl'} (ih:ClOk P ρ g cl) {f:FuncId} (hlt:f < BND) {r:RF} (hcf:compF P f=some r) {c:RV} {fl:Nat} {h:HT} {n:Nat} {v:RV} {h':HT} {n':Nat} (hgf:g≤fl) (hf:fl≤n)
  (e2:callF ys cl f r c fl h n=.ok v h' n'):Ab fl h n h' n'∧known P f=true ∧
  ∀ (m:Mp) (w:World) (vs:List Value),Sim P ρ m g h w→Glob P ρ m→denC ρ m c vs→Fresh n n' m→Calls P f vs.toArray w (fun e w'=>∃ u m',e=.returned u∧Tr P ρ g fl h n m w h' n' m' w'∧den ρ m' v u):=by
 have hcf2:(do
   let fn ← P.funcs[f]?
   let c ← fn.body
   let rs ← fn.results.toList.mapM (compRes P fn.ntmps)
   if known P f && decide (fn.ntmps < 1000000) && decide ((rngs c).length≤256) then some (.f (fn.params.size + fn.nfree) (comp P fn.ntmps f c 0) rs) else none)=some r:=by
  rw [← hcf]; exact (if_pos hlt).symm
 simp only [Option.bind_eq_bind,Option.bind_eq_some_iff] at hcf2
 obtain ⟨fn,hfn,bd,hbd,rs,hrs,h1⟩:=hcf2
 split at h1
 case isFalse=>cases h1
 rename_i hk
 cases h1
 simp only [Bool.and_eq_true,decide_eq_true_eq] at hk
 have e3:gO (SR.bad [93]) (chLen c) (fun q=>bf (Nat.beq q (fn.params.size + fn.nfree)) (retR (code ys cl fl (comp P fn.ntmps f bd 0) (lay c te 0) h n) f rs) (.bad [94,f]))=.ok v h' n':=e2
 obtain ⟨q,hq,e4⟩:=gO_ok e3 (by simp)
 obtain ⟨hq2,e5⟩:=bf_ok e4 (by simp)
 have hrg:∀ (j:Nat) (x:Array Tmp × Code × Code),(rngs bd)[j]?=some x→0 + j < 256∧loopAt P (keyAt f (0 + j))=some (f,fn.ntmps,x.1,x.2.1,x.2.2):=fun j x hj=>by
  have hj2:j < 256:=Nat.lt_of_lt_of_le (List.getElem?_eq_some_iff.1 hj).1 hk.2
  refine ⟨by omega,?_⟩
  have k1:keyAt f (0 + j) / 256=f:=by unfold keyAt; omega
  have k2:keyAt f (0 + j) % 256=j:=by unfold keyAt; omega
  unfold loopAt
  rw [k1,k2]
  simp [hfn,hbd,hj,hk.2]
 have hco:=code_ok (r:=none) hk.1.2 hy ih hgf (hdr _ _ fl fn.ntmps ih hgf) bd 0 hrg (lay c te 0) h n
 have fin:∀ (e:Exit) (t1:FT) (h1:HT) (n1:Nat),(e=.normal ∨ e=.ret)→brIs (code ys cl fl (comp P fn.ntmps f bd 0) (lay c te 0) h n) e t1 h1 n1→ret t1 h1 n1 rs=.ok v h' n' →
   Ab fl h n h' n'∧known P f=true∧∀ (m:Mp) (w:World) (vs:List Value),Sim P ρ m g h w→Glob P ρ m→denC ρ m c vs→Fresh n n' m→Calls P f vs.toArray w (fun e w'=>∃ u m',e=.returned u∧Tr P ρ g fl h n m w h' n' m' w'∧den ρ m' v u):=by
  intro e t1 h1 n1 he hbr hret
  obtain ⟨ab,k⟩:=hco e t1 h1 n1 hbr hf
  have hhn:h'=h1∧n'=n1:=by
   unfold ret at hret
   rcases gN_ok hret (by simp) with ⟨_,h2⟩ | ⟨x,r,_,h2⟩
   ·cases h2; exact ⟨rfl,rfl⟩
   ·rcases gN_ok h2 (by simp) with ⟨_,h4⟩ | ⟨y,r2,_,h4⟩
    ·obtain ⟨_,_,q1,q2⟩:=okV_ok h4; exact ⟨q1,q2⟩
    ·cases h4; exact ⟨rfl,rfl⟩
  obtain ⟨rfl,rfl⟩:=hhn
  refine ⟨ab,hk.1.1,fun m w vs s gl hd fr=>?_⟩
  refine (callsIn_wide (n:=0)).1 (callsIn_of_wp_marks (F:=WF none) hfn hbd trivial ?_)
  have F0:Fr P ρ m fn.ntmps (lay c te 0) (vs.toArray ++ Array.replicate (fn.ntmps - vs.toArray.size) undef):=by
   refine ⟨by simp; omega,hk.1.2,fun i hi=>?_,gl⟩
   rcases lay_ok q vs te 0 hq hd i hi with ⟨_,_,u,h3,h4⟩ | ⟨_,h3⟩
   ·have hlt:i < vs.length:=by
     rcases Nat.lt_or_ge i vs.length with p | p
     ·exact p
     ·rw [Nat.sub_zero,List.getElem?_eq_none p] at h3; cases h3
    rw [Nat.sub_zero] at h3
    have:(vs.toArray ++ Array.replicate (fn.ntmps - vs.toArray.size) undef).getD i undef=u:=by
     rw [Array.getD_eq_getD_getElem?,Array.getElem?_append_left (by simpa using hlt)]
     simp [h3]
    rw [this]; exact h4
   ·exact absurd h3 hi
  refine k _ m w F0 s fr w.heap.size Marks.nil _ fun a1 w1 m1 d1 F1 T1=>?_
  have hl:LeavesInM (WF none) 0 P fn a1.tmps (fun e w'=>∃ u m',e=.returned u∧Tr P ρ g fl h n m w h' n' m' w'∧den ρ m' v u) a1.defers .returning w1:=
   leaves_ok a1.defers w1 d1.2.2.2 (fun d hd=>by obtain ⟨D,q1,q2,q3,_⟩:=d1.2.1 d hd; exact ⟨D,q1,q2,q3⟩) fun w2 hw2=>by
    have T2:=T1.shut hw2
    obtain ⟨_,_,u,hu1,hu2⟩:=ret_ok F1 T2.sim hrs hret
    exact ⟨u,hu1,u,m1,rfl,T2,hu2⟩
  rcases he with rfl | rfl
  ·exact hl
  ·exact hl
 cases hb:code ys cl fl (comp P fn.ntmps f bd 0) (lay c te 0) h n with
 | nx t1 h1 n1=>rw [hb] at e5; exact fin .normal t1 h1 n1 (.inl rfl) (by rw [hb]; exact brIs_nx.2 ⟨rfl,rfl,rfl,rfl⟩) e5
 | rt t1 h1 n1=>rw [hb] at e5; exact fin .ret t1 h1 n1 (.inr rfl) (by rw [hb]; exact brIs_rt.2 ⟨rfl,rfl,rfl,rfl⟩) e5
 | ex id t1 h1 n1=>rw [hb] at e5; cases e5
 | bad l=>rw [hb] at e5; cases e5
end Go.Rn
