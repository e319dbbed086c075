/-
  One text of a symbolic evaluator over the model, shown sound once for every program: no statement is claimed here.
-/
import Derived.Test.YthfaoceleaaepaaGreatDoorRnN
import Derived.Deep.AppendSrc
import Derived.Laws.BytesString
namespace Go.Rn
variable {ρ:Nat→Int} {m m':Mp} {P:Program}
section
variable {g fl n n' nt lim:Nat} {h h':HT} {t:FT} {a:Act} {o:Oper} {w:World} {v:RV} {ys:Ys} {cl:Cl'}
theorem rowCells_ok (s:Sim P ρ m g h w) {es b k q:Nat} {r:RV} (e:rowCells h es b k q=r) (hr:r ≠ .un) (h0:0 < q):∃ c z B O Z C el fr cs,hg h b=.bk c z∧m b=some (B,O,Z)∧w.heap[B]?=some (.cells C el fr)∧C.size=Z∧chLen r=some (q * es) ∧
  cs.length=q * es∧denC ρ m r cs∧(∀ x ∈ cs,Cell x)∧∀ (j:Nat) (u:Value),cs[j]?=some u→C[O + k + j]?=some u:=by
 unfold rowCells at e
 rcases bf_or e with ⟨h1,_⟩ | ⟨_,e2⟩
 ·have:=beq_ok h1; omega
 ·obtain ⟨c,z,hb,e3⟩:=gK_ok e2 hr.symm
  obtain ⟨B,O,Z,C,el,fr,h1,h2,h3,_,_,h6⟩:=s.cells b c z hb (gK_mz e2 hr.symm hb)
  have e4:rd c (q * es) k=r:=e3
  obtain ⟨g1,cs,g2,g3,g4,g5⟩:=rd_ok h6 (q * es) k (by rw [e4]; exact hr)
  rw [e4] at g1 g3
  exact ⟨c,z,B,O,Z,C,el,fr,cs,hb,h1,h2,h3,g1,g2,g3,g4,g5⟩
theorem cell_at {B j:Nat} {C:Array Value} {el:TypeId} {fr:Nat × Nat} {w:World} (hh:w.heap[B]?=some (.cells C el fr)):w.cell? ⟨B,j,none⟩=C[j]?:=by simp [World.cell?,hh]
theorem slCells_ok (s:Sim P ρ m g h w) {es q:Nat} {x r:RV} {u:Value} (hd:den ρ m x u) (e:slCells h es x q=r) (hr:r ≠ .un) (h0:0 < q) (hl:slLen x=some q) :
  ∃ A cap cs,u=.slice (some A) q cap∧chLen r=some (q * es)∧cs.length=q * es∧denC ρ m r cs∧(∀ x ∈ cs,Cell x)∧∀ (j:Nat) (u:Value),cs[j]?=some u→w.cell? (A.add j)=some u:=by
 unfold slCells at e
 rcases gL_ok e hr.symm with ⟨rfl,e2⟩ | ⟨b,k,l,c,rfl,e2⟩ | ⟨b,k,l,f,rfl,e2⟩ | ⟨b,f,rfl,e2⟩
 ·obtain ⟨h1,_⟩:=bf_ok e2 hr.symm
  have:=beq_ok h1; omega
 ·obtain ⟨_,e3⟩:=bf_ok e2 hr.symm
  obtain ⟨c',z,B,O,Z,C,el,fr,cs,_,g2,g3,_,g5,g6,g7,g8,g9⟩:=rowCells_ok s e3 hr h0
  obtain ⟨B',O',Z',hm,_,hx⟩:=hd
  rw [g2] at hm
  cases hm
  cases hl
  exact ⟨_,c,cs,hx,g5,g6,g7,g8,fun j u hj=>by rw [add_at,cell_at g3]; exact g9 j u hj⟩
 ·obtain ⟨_,e3⟩:=bf_ok e2 hr.symm
  obtain ⟨c',z,B,O,Z,C,el,fr,cs,_,g2,g3,_,g5,g6,g7,g8,g9⟩:=rowCells_ok s e3 hr h0
  obtain ⟨B',O',Z',cc,hm,_,_,hx⟩:=hd
  rw [g2] at hm
  cases hm
  cases hl
  exact ⟨_,cc,cs,hx,g5,g6,g7,g8,fun j u hj=>by rw [add_at,cell_at g3]; exact g9 j u hj⟩
 ·obtain ⟨h1,_⟩:=bf_ok e2 hr.symm
  have:=beq_ok h1; omega
theorem knows_lay {r:RV} {cs:List Value} {z:Nat} (hlen:chLen r=some z) (hd:denC ρ m r cs) (hc:∀ x ∈ cs,Cell x) {C:Array Value} {O:Nat} (hC:∀ (k:Nat) (u:Value),cs[k]?=some u→C[O + k]?=some u) :
  (∀ k,z≤k→cg (lay r ce 0) k=.un)∧Knows ρ m (lay r ce 0) C O:=by
 have hl:=chLen_ok z cs hlen hd
 have key:∀ k,cg (lay r ce 0) k ≠ .un→k < z∧∃ u,cs[k]?=some u∧den ρ m (cg (lay r ce 0) k) u:=by
  intro k hk
  rcases lay_ok z cs ce 0 hlen hd k hk with ⟨_,_,u,h2,h3⟩ | ⟨_,h1⟩
  ·rw [Nat.sub_zero] at h2
   refine ⟨?_,u,h2,h3⟩
   rcases Nat.lt_or_ge k cs.length with q | q
   ·omega
   ·rw [List.getElem?_eq_none q] at h2; cases h2
  ·exact absurd h1 hk
 refine ⟨fun k hk=>?_,fun k hk=>?_⟩
 ·rcases Classical.em (cg (lay r ce 0) k=.un) with q | q
  ·exact q
  ·have:=(key k q).1; omega
 ·obtain ⟨_,u,h2,h3⟩:=key k hk
  exact ⟨u,hC k u h2,h3,hc u (List.mem_of_getElem? h2)⟩
theorem knows_on {y:RV} {cs:List Value} {q z:Nat} {c:CT} (hlen:chLen y=some q) (hd:denC ρ m y cs) (hc:∀ x ∈ cs,Cell x) (hz:∀ k,z≤k→cg c k=.un) {C C2:Array Value} {O O2:Nat} (hK:Knows ρ m c C O)
  (h1:∀ k,k < z→C2[O2 + k]?=C[O + k]?) (h2:∀ (k:Nat) (u:Value),cs[k]?=some u→C2[O2 + z + k]?=some u) :
  (∀ k,z + q≤k→cg (lay y c z) k=.un)∧Knows ρ m (lay y c z) C2 O2:=by
 have hl:=chLen_ok q cs hlen hd
 refine ⟨fun k hk=>?_,fun k hk=>?_⟩
 ·rcases Classical.em (cg (lay y c z) k=.un) with p | p
  ·exact p
  ·rcases lay_ok q cs c z hlen hd k p with ⟨h3,_,u,h4,_⟩ | ⟨_,h3⟩
   ·rw [List.getElem?_eq_none (by omega)] at h4; cases h4
   ·rw [h3]; exact hz k (by omega)
 ·rcases lay_ok q cs c z hlen hd k hk with ⟨h3,_,u,h4,h5⟩ | ⟨h3,h4⟩
  ·refine ⟨u,?_,h5,hc u (List.mem_of_getElem? h4)⟩
   have:=h2 (k - z) u h4
   rwa [show O2 + z + (k - z)=O2 + k by omega] at this
  ·rw [h4] at hk ⊢
   have hkz:k < z:=by
    rcases Nat.lt_or_ge k z with p | p
    ·exact p
    ·exact absurd (hz k p) hk
   obtain ⟨u,g1,g2,g3⟩:=hK k hk
   exact ⟨u,by rw [h1 k hkz]; exact g1,g2,g3⟩
theorem run_room {ty tx rt e:TypeId} {i:TypeInfo} (ht:P.underlying ty=some (.slice e)) (hi:P.info? e=some i) {B off sLen sCap:Nat} {C:Array Value} {el:TypeId} (hh:w.heap[B]?=some (.cells C el (0,0)))
  {x:Value} {q:Nat} {news:List Value} (hs:Src P i.size tx x q news w) (hroom:sLen + q≤sCap) (hfit:off + sLen * i.size + news.length≤C.size) :
  (Builtin.append_ #[ty,tx] rt #[.slice (some ⟨B,off,none⟩) sLen sCap,x]).run P w=.ok (.slice (some ⟨B,off,none⟩) (sLen + q) sCap) (w.setRow B (laid C (off + sLen * i.size) news)):=by
 have hst:=run_lay (P:=P) hh hfit hs.one
 rcases hs.kind with ⟨e',hk⟩ | hk <;> simp [Builtin.append_,run_underlying ht,run_underlying hk,sizeOf,typeInfo,hi,hs.len,hroom,hs.cells,add_at,hst]
theorem chB_len:∀ l:List Nat,chLen (chB l)=some l.length
 | []=>rfl
 | c::l=>by
  show gO none (chLen (chB l)) (fun n=>some (n + 1))=_
  rw [chB_len l]; rfl
theorem chB_den:∀ l:List Nat,denC ρ m (chB l) (l.map fun c=>Value.int .u8 (c:Nat))
 | []=>denC_nil.2 rfl
 | _::l=>denC_cons.2 ⟨_,_,rfl,rfl,chB_den l⟩
theorem byteCells_map {l:List Nat} (h:∀ x ∈ l,x < 256):byteCells ⟨(l.map UInt8.ofNat).toArray⟩=l.map fun c=>Value.int .u8 (c:Nat):=by
 unfold byteCells
 rw [List.map_map]
 refine List.map_congr_left fun x hx=>?_
 have:=h x hx
 simp [Nat.mod_eq_of_lt this]
theorem ySrc (s:Sim P ρ m g h w) {es q:Nat} {tx:TypeId} (hk:(∃ e',P.underlying tx=some (.slice e')) ∨ P.underlying tx=some .string) {x r:RV} {u:Value} (hd:den ρ m x u) (e:yCells h es x q=r) (hr:r ≠ .un) (h0:0 < q) (hl:yLen x=some q) :
  ∃ cs,Src P es tx u q cs w∧chLen r=some (q * es)∧cs.length=q * es∧denC ρ m r cs∧∀ x ∈ cs,Cell x:=by
 have gen:∀ l,x ≠ .s l→slCells h es x q=r→slLen x=some q→∃ cs,Src P es tx u q cs w∧chLen r=some (q * es)∧cs.length=q * es∧denC ρ m r cs∧∀ x ∈ cs,Cell x:=by
  intro _ _ e hl
  obtain ⟨A,cap,cs,rfl,g1,g2,g3,g4,g5⟩:=slCells_ok s hd e hr h0 hl
  exact ⟨cs,⟨hk,fun _=>rfl,run_firstCells_some w es q A q cap cs g2 g5,run_firstCells_some w.drew es q A q cap cs g2 (by simpa using g5),g2,g4⟩,g1,g2,g3,g4⟩
 cases x with
 | s l=>
  have e1:bf (Nat.beq es 1) (bf (Nat.beq q l.length) (chB l) .un) .un=r:=e
  obtain ⟨h1,e2⟩:=bf_ok e1 hr.symm
  obtain ⟨h2,e3⟩:=bf_ok e2 hr.symm
  obtain rfl:=beq_ok h1
  obtain rfl:=beq_ok h2
  obtain ⟨rfl,hb⟩:=hd
  have hsz:(⟨(l.map UInt8.ofNat).toArray⟩:ByteArray).size=l.length:=by
   show (l.map UInt8.ofNat).toArray.size=_
   simp
  have c1:=fun w'=>firstCells_string (P:=P) ⟨(l.map UInt8.ofNat).toArray⟩ w'
  rw [hsz,byteCells_map hb] at c1
  refine ⟨l.map fun c=>Value.int .u8 (c:Nat),⟨hk,fun w'=>?_,c1 w,c1 w.drew,by simp,fun x hx=>?_⟩,by rw [← e3,chB_len,Nat.mul_one],by simp,by rw [← e3]; exact chB_den l,fun x hx=>?_⟩
  ·show Result.ok (⟨(l.map UInt8.ofNat).toArray⟩:ByteArray).size w'=_
   rw [hsz]
  ·obtain ⟨_,_,rfl⟩:=List.mem_map.1 hx; rfl
  ·obtain ⟨_,_,rfl⟩:=List.mem_map.1 hx; rfl
 | _=>exact gen [] (by simp) e hl
theorem ySrc0 {es:Nat} {x:RV} {u:Value} (hd:den ρ m x u) (hl:yLen x=some 0) (w:World):(Builtin.lenOf u).run P w=.ok 0 w∧(Builtin.firstCells es 0 u).run P w=.ok #[] w:=by
 have gen:slLen x=some 0→(Builtin.lenOf u).run P w=.ok 0 w∧(Builtin.firstCells es 0 u).run P w=.ok #[] w:=by
  intro hl
  obtain ⟨p',c',rfl,_⟩:=slLen_ok hl hd
  refine ⟨rfl,?_⟩
  cases p' with
  | none=>simp [Builtin.firstCells]
  | some A=>simp [Builtin.firstCells,loadCells,loadCellsFrom]
 cases x with
 | s l=>
  have e1:some l.length=some 0:=hl
  have e2:l=[]:=List.length_eq_zero_iff.1 (by simpa using e1)
  subst e2
  obtain ⟨rfl,_⟩:=hd
  exact ⟨rfl,by simp [Builtin.firstCells]⟩
 | _=>exact gen hl
theorem grown_ge (w:World) (need old:Nat) (e:TypeId):need≤grownCap w need old e:=by unfold grownCap Question.cut; simp only; omega
theorem newBlk_ok {h0:HT} {cs:CT} {z:Nat} {v0:RV} (e:newBlk h0 n cs z v0=.ok v h' n'):v=v0∧n'=n + 1∧h'=hst h0 (.bk cs z) n∧z ≠ MAPZ:=
 let ⟨h0,h1,h2,h3⟩:=newBlk_ok4 e
 ⟨h1,h3,h2,h0⟩
theorem Tr.grow {h0:HT} (s:Sim P ρ m g h w) (hsub:∀ b c z,hg h0 b=.bk c z→hg h b=.bk c z) (hn:m n=none) {c:CT} {z:Nat} {C:Array Value} (el:TypeId) (hmz:z ≠ MAPZ) (hz:∀ k,z≤k→cg c k=.un) (hk:Knows ρ m c C 0) :
  Tr P ρ g fl h n m w (hst h0 (.bk c z) n) (n + 1) (upd m n (w.heap.size,0,C.size)) (w.drew.alloc (.cells C el (0,0))):=by
 have t1:Tr P ρ g fl h n m w h n m w.drew:=Tr.drew s
 have t2:Tr P ρ g fl h n m w.drew h0 n m w.drew:=Tr.sub t1.sim hsub
 have t3:=Tr.new (fl:=fl) t2.sim hn c C el hmz hz (hk.le (upd_le hn))
 exact (t1.trans t2 (Nat.le_refl _) (Nat.le_refl _)).trans t3 (Nat.le_refl _) (Nat.le_succ _)
theorem sub_no {b:Nat}:∀ b' c z,hg (hst h .no b) b'=.bk c z→hg h b'=.bk c z:=by
 intro b' c z e
 rcases hg_hst h .no b b' with ⟨_,h2 | h2⟩ | ⟨_,h2⟩
 ·rw [h2] at e; cases e
 ·rw [h2] at e; cases e
 ·rw [h2] at e; exact e
def App (P:Program) (ρ:Nat→Int) (ty tx rt:TypeId) (g fl:Nat) (m:Mp) (w:World) (h:HT) (n:Nat) (v:RV) (h':HT) (n':Nat) (u u':Value):Prop:=
 Ab fl h n h' n'∧(Fresh n n' m→∃ r w' m',(Builtin.append_ #[ty,tx] rt #[u,u']).run P w=.ok r w'∧Tr P ρ g fl h n m w h' n' m' w'∧den ρ m' v r)
theorem list_app {a b c:List Value} {k:Nat} {u:Value} (h:b[k]?=some u):(a ++ b ++ c)[a.length + k]?=some u:=by
 have hk:k < b.length:=by
  rcases Nat.lt_or_ge k b.length with q | q
  ·exact q
  ·rw [List.getElem?_eq_none q] at h; cases h
 rw [List.append_assoc,List.getElem?_append_right (by omega),List.getElem?_append_left (by omega),show a.length + k - a.length=k by omega]
 exact h
theorem list_fst {a b c:List Value} {k:Nat} {u:Value} (h:a[k]?=some u):(a ++ b ++ c)[k]?=some u:=by
 have hk:k < a.length:=by
  rcases Nat.lt_or_ge k a.length with q | q
  ·exact q
  ·rw [List.getElem?_eq_none q] at h; cases h
 rw [List.append_assoc,List.getElem?_append_left hk]
 exact h
structure Adds (P:Program) (ty tx rt el:TypeId) (i:TypeInfo) (z0:Value) (u':Value) (q:Nat) (news:List Value) (w:World):Prop where
 room:∀ {B off sLen sCap:Nat} {C:Array Value} {el2:TypeId},w.heap[B]?=some (.cells C el2 (0,0))→sLen + q≤sCap→off + sLen * i.size + news.length≤C.size →
  (Builtin.append_ #[ty,tx] rt #[.slice (some ⟨B,off,none⟩) sLen sCap,u']).run P w=.ok (.slice (some ⟨B,off,none⟩) (sLen + q) sCap) (w.setRow B (laid C (off + sLen * i.size) news))
 grow:∀ (base:Option Addr) (sLen sCap:Nat) (olds:List Value),(Builtin.firstCells i.size sLen (.slice base sLen sCap)).run P w.drew=.ok olds.toArray w.drew→sCap < sLen + q→((sLen + q:Nat):Int)≤9223372036854775807→Builtin.nextslicecap (sLen + q) sCap * i.bytes≤281474976710656 →
  (Builtin.append_ #[ty,tx] rt #[.slice base sLen sCap,u']).run P w=.ok (.slice (some ⟨w.heap.size,0,none⟩) (sLen + q) (grownCap w (sLen + q) sCap el)) (w.drew.alloc (.cells ((olds ++ news).toArray ++ Builtin.zeroCells z0.cells (grownCap w (sLen + q) sCap el - (sLen + q))) el))
theorem adds_src {ty tx rt el:TypeId} {i:TypeInfo} (ht:P.underlying ty=some (.slice el)) (hi:P.info? el=some i) {z0:Value} (hz0:i.zero=some z0) {u':Value} {q:Nat} {news:List Value} (hs:Src P i.size tx u' q news w):Adds P ty tx rt el i z0 u' q news w:=
 ⟨fun hh hroom hfit=>run_room ht hi hh hs hroom hfit,fun base sLen sCap olds ho hg h63 hfit=>run_append_grow_src w ty tx rt el i z0 ht hi hz0 base sLen sCap olds ho u' q news hs hg h63 hfit⟩
theorem appC_ok (s:Sim P ρ m g h w) (hgf:g≤fl) (hf:fl≤n) {ty tx rt el:TypeId} {i:TypeInfo} {z0:Value} (hsz:0 < i.size) (hM:i.size < 1048576) (hzc:z0.cells.size=i.size) (hb1:i.bytes≤65536) {x yc:RV} {u u':Value} {q l:Nat} {news:List Value}
  (dx:den ρ m x u) (hA:Adds P ty tx rt el i z0 u' q news w) (n1:chLen yc=some (q * i.size)) (n2:news.length=q * i.size) (n3:denC ρ m yc news) (n4:∀ x ∈ news,Cell x) (hq0:0 < q) (hqm:q≤1048576) (hl:slLen x=some l) (hlm:l≤1048576)
  (e7:appC fl i.size x q yc h n=.ok v h' n'):App P ρ ty tx rt g fl m w h n v h' n' u u':=by
 have hd0:i.size / 1048576=0:=Nat.div_eq_of_lt hM
 have hm0:i.size % 1048576=i.size:=Nat.mod_eq_of_lt hM
 have hfit48:∀ old,old < l + q→Builtin.nextslicecap (l + q) old * i.bytes≤281474976710656:=fun old ho=>by
  refine growslice_fits ho ?_
  have:(l + q) * i.bytes≤2097152 * 65536:=Nat.mul_le_mul (by omega) hb1
  omega
 have hes:(l + q) * i.size=l * i.size + q * i.size:=Nat.add_mul _ _ _
 unfold appC at e7
 have fresh_row:∀ {h0:HT} {c:CT} {olds:List Value} {sCap:Nat},(∀ b c z,hg h0 b=.bk c z→hg h b=.bk c z)→(l + q) * i.size ≠ MAPZ→olds.length=l * i.size→(∀ k,(l + q) * i.size≤k→cg c k=.un) →
   (∀ zs:List Value,Knows ρ m c (olds ++ news ++ zs).toArray 0)→n'=n + 1→v=.su n 0 (l + q) i.size→h'=hst h0 (.bk c ((l + q) * i.size)) n→Fresh n n' m →
   (Builtin.append_ #[ty,tx] rt #[u,u']).run P w=.ok (.slice (some ⟨w.heap.size,0,none⟩) (l + q) (grownCap w (l + q) sCap el)) (w.drew.alloc (.cells ((olds ++ news).toArray ++ Builtin.zeroCells z0.cells (grownCap w (l + q) sCap el - (l + q))) el)) →
   ∃ r w' m',(Builtin.append_ #[ty,tx] rt #[u,u']).run P w=.ok r w'∧Tr P ρ g fl h n m w h' n' m' w'∧den ρ m' v r:=by
  intro h0 c olds sCap hsub hmz hol hz hK hn' hv hh' hfr hrun
  subst hn' hv hh'
  have hn:=hfr n (Nat.le_refl _) (Nat.lt_succ_self _)
  have hC:(olds ++ news).toArray ++ Builtin.zeroCells z0.cells (grownCap w (l + q) sCap el - (l + q))=(olds ++ news ++ (Builtin.zeroCells z0.cells (grownCap w (l + q) sCap el - (l + q))).toList).toArray:=by
   apply Array.ext'; simp
  rw [hC] at hrun
  refine ⟨_,_,_,hrun,Tr.grow s hsub hn el hmz hz (hK _),⟨w.heap.size,0,_,grownCap w (l + q) sCap el,upd_self _ _,by rw [hd0]; exact grown_ge _ _ _ _,?_,rfl⟩⟩
  have hge:=grown_ge w (l + q) sCap el
  rw [hm0]
  simp [hol,n2,Builtin.zeroCells,hzc]
  have:(grownCap w (l + q) sCap el - (l + q)) * i.size=grownCap w (l + q) sCap el * i.size - (l + q) * i.size:=Nat.sub_mul _ _ _
  have h3:(l + q) * i.size≤grownCap w (l + q) sCap el * i.size:=Nat.mul_le_mul_right _ hge
  omega
 have hsub0:∀ b c z,hg h b=.bk c z→hg h b=.bk c z:=fun _ _ _ e=>e
 have h63:((l + q:Nat):Int)≤9223372036854775807:=by have:l + q≤2097152:=(by omega); omega
 have lay_new:∀ (C:Array Value) (O:Nat),(∀ (k:Nat) (u:Value),news[k]?=some u→C[O + k]?=some u)→(∀ k,q * i.size≤k→cg (lay yc ce 0) k=.un)∧Knows ρ m (lay yc ce 0) C O:=fun C O hC=>knows_lay n1 n3 n4 hC
 have lay_un:=(lay_new news.toArray 0 (fun k u hk=>by simpa using hk)).1
 rcases gL_ok e7 (by simp) with ⟨rfl,e8⟩ | ⟨b,k,l',c,rfl,e8⟩ | ⟨b,k,l',f,rfl,e8⟩ | ⟨b,f,rfl,e8⟩
 ·-- nil
  cases hl
  obtain ⟨hv,hn',hh',hmz⟩:=newBlk_ok e8
  have hx:u=.slice none 0 0:=dx
  subst hx
  refine ⟨by rw [hn',hh']; exact Ab.new _ hf,fun hfr=>?_⟩
  have hrun:=hA.grow none 0 0 [] (by simp [Builtin.firstCells]) (by omega) h63 (hfit48 0 (by omega))
  refine fresh_row (h0:=h) (c:=lay yc ce 0) (olds:=[]) (sCap:=0) hsub0 (by simpa using hmz) (by simp) (by simpa using lay_un) (fun zs=>(lay_new _ 0 (fun k u hk=>?_)).2) hn' (by simpa using hv) (by simpa using hh') hfr ?_
  ·simpa using list_fst (a:=news) (b:=[]) (c:=zs) hk
  ·simpa using hrun
 ·-- its room is known
  cases hl
  obtain ⟨B,O,Z,hm,hlc,hx⟩:=dx
  subst hx
  rcases bf_or e8 with ⟨h2,e9⟩ | ⟨h2,e9⟩
  ·have hroom:=ble_ok h2
   obtain ⟨v1,h1',n1',e10,e11⟩:=gR_ok e9
   cases e11
   obtain ⟨_,rfl,hab,B',O',Z',C,el',g1,g2,g3,g4⟩:=stBlk_ok (n:=n) s hgf n3 (List.ne_nil_of_length_pos (by rw [n2]; exact Nat.mul_pos hq0 hsz)) n4 e10
   rw [hm] at g1
   cases g1
   refine ⟨hab,fun _=>⟨_,_,m,?_,g4,⟨B,O,Z,hm,hroom,rfl⟩⟩⟩
   have:=hA.room (off:=O + k) (sLen:=l) (sCap:=c) g2 hroom (by show O + k + l * i.size + news.length≤C.size; have:O + (k + l * i.size) + news.length≤C.size:=g3; omega)
   rw [show O + k + l * i.size=O + (k + l * i.size) by omega] at this
   exact this
  ·have hgrow:c < l + q:=by
    rcases Nat.lt_or_ge c (l + q) with p | p
    ·exact p
    ·rw [show Nat.ble (Nat.add l q) c=true from ble_yes p] at h2; cases h2
   rcases bf_or e9 with ⟨h3,e10⟩ | ⟨h3,e10⟩
   ·obtain rfl:=beq_ok h3
    obtain ⟨hv,hn',hh',hmz⟩:=newBlk_ok e10
    refine ⟨by rw [hn',hh']; exact Ab.new _ hf,fun hfr=>?_⟩
    have hrun:=hA.grow (some ⟨B,O + k,none⟩) 0 c [] (run_firstCells_some (P:=P) w.drew i.size 0 ⟨B,O + k,none⟩ 0 c [] (by simp) (by simp)) hgrow h63 (hfit48 c hgrow)
    refine fresh_row (h0:=h) (c:=lay yc ce 0) (olds:=[]) (sCap:=c) hsub0 (by simpa using hmz) (by simp) (by simpa using lay_un) (fun zs=>(lay_new _ 0 (fun k u hk=>?_)).2) hn' (by simpa using hv) (by simpa using hh') hfr hrun
    simpa using list_fst (a:=news) (b:=[]) (c:=zs) hk
   ·have hl0:0 < l:=by
     rcases Nat.eq_zero_or_pos l with p | p
     ·rw [p] at h3; simp at h3
     ·exact p
    unfold growC at e10
    obtain ⟨hru,e11⟩:=nU_ok e10 (by simp)
    obtain ⟨hv,hn',hh',hmz⟩:=newBlk_ok e11
    have hrc:rowCells h i.size b k l ≠ .un:=fun p=>hru (by rw [p]; rfl)
    obtain ⟨c0,z,B',O',Z',C,el',fr,olds,p1,p2,p3,p4,p5,p6,p7,p8,p9⟩:=rowCells_ok s rfl hrc hl0
    rw [hm] at p2
    cases p2
    obtain ⟨_,plen⟩:=chApp_len n1 _ p5
    have pd:=chApp_ok n3 olds hru p7
    rw [← hes] at plen
    have hall:∀ x ∈ olds ++ news,Cell x:=fun x hx=>(List.mem_append.1 hx).elim (p8 x) (n4 x)
    refine ⟨by rw [hn',hh']; exact Ab.new _ hf,fun hfr=>?_⟩
    have hrun:=hA.grow (some ⟨B,O + k,none⟩) l c olds (run_firstCells_some (P:=P) w.drew i.size l ⟨B,O + k,none⟩ l c olds p6 (by simpa using (fun j u hj=>by rw [add_at,cell_at p3]; exact p9 j u hj))) hgrow h63 (hfit48 c hgrow)
    refine fresh_row (h0:=h) (c:=lay (chApp (rowCells h i.size b k l) yc) ce 0) (olds:=olds) (sCap:=c) hsub0 hmz p6 (knows_lay (C:=(olds ++ news).toArray) (O:=0) plen pd hall (fun k u hk=>by simpa using hk)).1 (fun zs=>(knows_lay (C:=(olds ++ news ++ zs).toArray) (O:=0) plen pd hall (fun k u hk=>?_)).2) hn' hv hh' hfr hrun
    simpa using list_fst (a:=olds ++ news) (b:=[]) (c:=zs) hk
 ·-- its room is open
  cases hl
  obtain ⟨hes2,e9⟩:=bf_ok e8 (by simp)
  have hes2:f % 1048576=i.size:=beq_ok hes2
  obtain ⟨B,O,Z,c,hm,hlc0,hZ,hx⟩:=dx
  subst hx
  rw [hes2] at hZ
  rcases bf_or e9 with ⟨hsp,e10⟩ | ⟨_,e9⟩
  ·-- so much room is known
   have hsp:q≤f / 1048576:=ble_ok hsp
   have hroom:l + q≤c:=by omega
   obtain ⟨v1,h1',n1',e10,e11⟩:=gR_ok e10
   cases e11
   obtain ⟨_,rfl,hab,B',O',Z',C,el',g1,g2,g3,g4⟩:=stBlk_ok (n:=n) s hgf n3 (List.ne_nil_of_length_pos (by rw [n2]; exact Nat.mul_pos hq0 hsz)) n4 e10
   rw [hm] at g1
   cases g1
   refine ⟨hab,fun _=>⟨_,_,m,?_,g4,⟨B,O,Z,c,hm,?_,?_,rfl⟩⟩⟩
   ·have:=hA.room (off:=O + k) (sLen:=l) (sCap:=c) g2 hroom (by show O + k + l * i.size + news.length≤C.size; have:O + (k + l * i.size) + news.length≤C.size:=g3; omega)
    rw [show O + k + l * i.size=O + (k + l * i.size) by omega] at this
    exact this
   ·show l + q + (i.size + 1048576 * (f / 1048576 - q)) / 1048576≤c
    omega
   ·show O + k + c * ((i.size + 1048576 * (f / 1048576 - q)) % 1048576)=Z
    rw [Nat.add_mul_mod_self_left,hm0]
    exact hZ
  obtain ⟨hfb,e10⟩:=bf_ok e9 (by simp)
  have hlc:l≤c:=by omega
  have hfb:=ble_ok hfb
  have hab0:Ab fl h n (hst h .no b) n:=Ab.set _ hfb (fun _ _ p=>by cases p)
  have e10':gK (SR.bad [105]) (hg h b) (fun c z=>bf (bf (Nat.beq k 0) (Nat.beq z (Nat.mul l i.size)) false) (newBlk (hst h .no b) n (lay yc c z) (Nat.mul (Nat.add l q) i.size) (.su n 0 (Nat.add l q) i.size)) (growC h n i.size b k l yc q (hst h .no b)))=.ok v h' n':=e10
  obtain ⟨c0,z,hb,e11⟩:=gK_ok e10' (by simp)
  obtain ⟨B',O',Z',C,el',fr,hm',hh,hCZ,hfr0,hz,hK⟩:=s.cells b c0 z hb (gK_mz e10' (by simp) hb)
  rw [hm] at hm'
  cases hm'
  obtain rfl:=hfr0 (.inl (Nat.le_trans hgf hfb))
  have hin:O + k + l * i.size≤C.size:=by
   have:l * i.size≤c * i.size:=Nat.mul_le_mul_right _ hlc
   omega
  obtain ⟨olds,ho1,ho2⟩:∃ olds:List Value,olds.length=l * i.size∧∀ (j:Nat),j < l * i.size→olds[j]?=C[O + k + j]?:=
   ⟨(C.toList.drop (O + k)).take (l * i.size),by simp; omega,fun j hj=>by rw [List.getElem?_take_of_lt hj,List.getElem?_drop,Array.getElem?_toList]⟩
  have ho3:∀ (j:Nat) (u:Value),olds[j]?=some u→w.cell? ((⟨B,O + k,none⟩:Addr).add j)=some u:=fun j u hj=>by
   have hjl:j < l * i.size:=by
    rcases Nat.lt_or_ge j olds.length with p | p
    ·omega
    ·rw [List.getElem?_eq_none p] at hj; cases hj
   rw [add_at,cell_at hh,← ho2 j hjl]; exact hj
  obtain ⟨ct,hv,hn',hh',hmz,hun,hkn⟩:∃ ct:CT,v=.su n 0 (l + q) i.size∧n'=n + 1∧h'=hst (hst h .no b) (.bk ct ((l + q) * i.size)) n∧(l + q) * i.size ≠ MAPZ∧(∀ j,(l + q) * i.size≤j→cg ct j=.un) ∧
    ∀ (C2:Array Value) (O2:Nat),(∀ j,j < l * i.size→C2[O2 + j]?=C[O + k + j]?)→(∀ (j:Nat) (u:Value),news[j]?=some u→C2[O2 + l * i.size + j]?=some u)→Knows ρ m ct C2 O2:=by
   rcases bf_or e11 with ⟨h3,e12⟩ | ⟨_,e12⟩
   ·obtain ⟨h4,h5⟩:=bf_ok h3 (by simp)
    obtain rfl:=beq_ok h4
    obtain rfl:=beq_ok h5
    obtain ⟨hv,hn',hh',hmz⟩:=newBlk_ok e12
    refine ⟨_,hv,hn',hh',hmz,?_,fun C2 O2 hC1 hC2=>?_⟩
    ·have:=(knows_on (C:=C) (O:=O) (C2:=(olds ++ news).toArray) (O2:=0) n1 n3 n4 hz hK (fun j hj=>by
      have:=ho2 j hj
      simp only [Nat.add_zero] at this
      rw [← this,Nat.zero_add]
      simp only [List.getElem?_toArray]
      rw [List.getElem?_append_left (by rw [ho1]; exact hj)]) (fun j u hj=>by
      have:=list_app (a:=olds) (b:=news) (c:=[]) hj
      rw [ho1] at this
      simpa using this)).1
     intro j hj
     exact this j (by show l * i.size + q * i.size≤j; omega)
    ·exact (knows_on (C:=C) (O:=O) n1 n3 n4 hz hK (fun j hj=>by have:=hC1 j hj; simpa using this) hC2).2
   ·unfold growC at e12
    obtain ⟨hru,e13⟩:=nU_ok e12 (by simp)
    obtain ⟨hv,hn',hh',hmz⟩:=newBlk_ok e13
    rcases Nat.eq_zero_or_pos l with p0 | p0
    ·subst p0
     have hrc:rowCells h i.size b k 0=.nil:=rfl
     rw [hrc] at hh' hru
     refine ⟨_,hv,hn',hh',hmz,?_,fun C2 O2 hC1 hC2=>?_⟩
     ·intro j hj; exact lay_un j (by rw [hes] at hj; omega)
     ·exact (lay_new C2 O2 (fun j u hj=>by have:=hC2 j u hj; simpa using this)).2
    ·have hrc:rowCells h i.size b k l ≠ .un:=fun p=>hru (by rw [p]; rfl)
     obtain ⟨c9,z9,B',O',Z',C',el9,fr,olds',p1,p2,p3,p4,p5,p6,p7,p8,p9⟩:=rowCells_ok s rfl hrc p0
     rw [hm] at p2
     cases p2
     rw [hh] at p3
     cases p3
     obtain ⟨_,plen⟩:=chApp_len n1 _ p5
     have pd:=chApp_ok n3 olds' hru p7
     rw [← hes] at plen
     have hall:∀ x ∈ olds' ++ news,Cell x:=fun x hx=>(List.mem_append.1 hx).elim (p8 x) (n4 x)
     refine ⟨_,hv,hn',hh',hmz,(knows_lay (C:=(olds' ++ news).toArray) (O:=0) plen pd hall (fun k u hk=>by simpa using hk)).1,fun C2 O2 hC1 hC2=>(knows_lay (C:=C2) (O:=O2) plen pd hall (fun j u hj=>?_)).2⟩
     rcases Nat.lt_or_ge j olds'.length with r | r
     ·rw [List.getElem?_append_left r] at hj
      rw [hC1 j (by omega)]
      exact p9 j u hj
     ·rw [List.getElem?_append_right r] at hj
      have:=hC2 (j - olds'.length) u hj
      rwa [show O2 + l * i.size + (j - olds'.length)=O2 + j by omega] at this
  refine ⟨by rw [hn',hh']; exact hab0.trans (Ab.new _ hf),fun hfr=>?_⟩
  by_cases hroom:l + q≤c
  ·have hn:=hfr n (Nat.le_refl _) (by omega)
   have hfit:O + k + l * i.size + news.length≤C.size:=by
    have:(l + q) * i.size≤c * i.size:=Nat.mul_le_mul_right _ hroom
    rw [n2]; omega
   have hrun:=hA.room (off:=O + k) (sLen:=l) (sCap:=c) hh hroom hfit
   have hkn2:=hkn (laid C (O + k + l * i.size) news) (O + k) (fun j hj=>laid_out hfit (.inl (by omega))) (fun j u hj=>laid_in hfit hj)
   refine ⟨_,_,upd m n (B,O + k,Z),hrun,?_,?_⟩
   ·rw [hh',hn']
    exact Tr.room s hb (Nat.le_trans hgf hfb) hfb hm hh hCZ hn hfit hf hmz hun (hkn2.le (upd_le hn))
   ·rw [hv]
    exact ⟨B,O + k,Z,c,upd_self _ _,by rw [hd0]; exact hroom,by rw [hm0]; omega,rfl⟩
  ·have hgrow:c < l + q:=by omega
   have hrun:=hA.grow (some ⟨B,O + k,none⟩) l c olds (run_firstCells_some (P:=P) w.drew i.size l ⟨B,O + k,none⟩ l c olds ho1 (by simpa using ho3)) hgrow h63 (hfit48 c hgrow)
   refine fresh_row (h0:=hst h .no b) (c:=ct) (olds:=olds) (sCap:=c) sub_no hmz ho1 hun (fun zs=>hkn _ 0 (fun j hj=>?_) (fun j u hj=>?_)) hn' hv hh' hfr hrun
   ·rw [← ho2 j hj,Nat.zero_add]
    have:j < olds.length:=by omega
    simp only [List.getElem?_toArray]
    rw [List.append_assoc,List.getElem?_append_left this]
   ·have:=list_app (a:=olds) (b:=news) (c:=zs) hj
    rw [ho1] at this
    simpa using this
 ·-- an empty one,somewhere in its row
  cases hl
  obtain ⟨hes2,e9⟩:=bf_ok e8 (by simp)
  obtain ⟨hfb,e10⟩:=bf_ok e9 (by simp)
  obtain ⟨c0,z,hb,e11⟩:=gK_ok e10 (by simp)
  obtain rfl:=beq_ok hes2
  have hfb:=ble_ok hfb
  obtain ⟨B,O,Z,A,c,hm,hZ,hx⟩:=dx
  subst hx
  obtain ⟨hv,hn',hh',hmz⟩:=newBlk_ok e11
  obtain ⟨B',O',Z',C,el',fr,hm',hh,hCZ,hfr0,hz,hK⟩:=s.cells b c0 z hb (gK_mz e10 (by simp) hb)
  rw [hm] at hm'
  cases hm'
  obtain rfl:=hfr0 (.inl (Nat.le_trans hgf hfb))
  have hab0:Ab fl h n (hst h .no b) n:=Ab.set _ hfb (fun _ _ p=>by cases p)
  refine ⟨by rw [hn',hh']; exact hab0.trans (Ab.new _ hf),fun hfr=>?_⟩
  by_cases hroom:0 + q≤c
  ·have hn:=hfr n (Nat.le_refl _) (by omega)
   obtain ⟨O1,rfl,hc1⟩:∃ O1,A=⟨B,O1,none⟩∧O1 + c * i.size=Z:=by
    rcases hZ with p | p
    ·omega
    ·exact p
   have hfit:O1 + 0 * i.size + news.length≤C.size:=by
    have:q * i.size≤c * i.size:=Nat.mul_le_mul_right _ (by omega)
    rw [n2]; omega
   have hrun:=hA.room (off:=O1) (sLen:=0) (sCap:=c) hh hroom hfit
   have hkn2:=(lay_new (laid C (O1 + 0 * i.size) news) O1 (fun j u hj=>by have:=laid_in hfit hj; simpa using this)).2
   refine ⟨_,_,upd m n (B,O1,Z),hrun,?_,?_⟩
   ·rw [hh',hn']
    exact Tr.room s hb (Nat.le_trans hgf hfb) hfb hm hh hCZ hn hfit hf hmz lay_un (hkn2.le (upd_le hn))
   ·rw [hv]
    exact ⟨B,O1,Z,c,upd_self _ _,by rw [hd0]; omega,by rw [hm0]; omega,by simp⟩
  ·have hgrow:c < 0 + q:=by omega
   have hrun:=hA.grow (some A) 0 c [] (run_firstCells_some (P:=P) w.drew i.size 0 A 0 c [] (by simp) (by simp)) hgrow h63 (hfit48 c hgrow)
   refine fresh_row (h0:=hst h .no b) (c:=lay yc ce 0) (olds:=[]) (sCap:=c) sub_no (by simpa using hmz) (by simp) (by simpa using lay_un) (fun zs=>(lay_new _ 0 (fun k u hk=>?_)).2) hn' (by simpa using hv) (by simpa using hh') hfr hrun
   simpa using list_fst (a:=news) (b:=[]) (c:=zs) hk
theorem app_ok (s:Sim P ρ m g h w) (hgf:g≤fl) (hf:fl≤n) {ty tx rt el:TypeId} {i:TypeInfo} (ht:P.underlying ty=some (.slice el)) (hk:(∃ e',P.underlying tx=some (.slice e')) ∨ P.underlying tx=some .string) (hi:P.info? el=some i) {z0:Value} (hz0:i.zero=some z0) (hsz:0 < i.size) (hM:i.size < 1048576) (hzc:z0.cells.size=i.size) (hb1:i.bytes≤65536) {x y:RV} {u u':Value}
  (dx:den ρ m x u) (dy:den ρ m y u') (e:app fl i.size x y h n=.ok v h' n'):App P ρ ty tx rt g fl m w h n v h' n' u u':=by
 unfold app at e
 obtain ⟨q,hq,e2⟩:=gO_ok e (by simp)
 rcases bf_or e2 with ⟨h1,e3⟩ | ⟨h1,e3⟩
 ·-- nothing is added
  obtain rfl:=beq_ok h1
  obtain ⟨l,hl,e4⟩:=gO_ok e3 (by simp)
  obtain ⟨hu,rfl,rfl,rfl⟩:=okV_ok e4
  obtain ⟨p,c,rfl,hlc⟩:=slLen_ok hl dx
  obtain ⟨hlen,hfc⟩:=ySrc0 (P:=P) (es:=i.size) dy hq w
  refine ⟨Ab.refl _ _ _,fun _=>⟨.slice p l c,w,m,?_,Tr.refl s,dx⟩⟩
  have hroom:l + 0≤c:=hlc
  rcases hk with ⟨e',hk⟩ | hk <;> cases p <;> simp [Builtin.append_,run_underlying ht,run_underlying hk,sizeOf,typeInfo,hi,hlen,hlc,hfc,storeCells]
 ·have hq0:0 < q:=by
   rcases Nat.eq_zero_or_pos q with p | p
   ·rw [p] at h1; simp at h1
   ·exact p
  obtain ⟨hqm,e4⟩:=bf_ok e3 (by simp)
  have hqm:=ble_ok hqm
  obtain ⟨hcu,e5⟩:=nU_ok e4 (by simp)
  obtain ⟨l,hl,e6⟩:=gO_ok e5 (by simp)
  obtain ⟨hlm,e7⟩:=bf_ok e6 (by simp)
  have hlm:=ble_ok hlm
  obtain ⟨news,hs,n1,n2,n3,n4⟩:=ySrc (tx:=tx) s hk dy rfl hcu hq0 hq
  exact appC_ok s hgf hf hsz hM hzc hb1 dx (adds_src ht hi hz0 hs) n1 n2 n3 n4 hq0 hqm hl hlm e7
end
end Go.Rn
namespace Go.Rn
variable {ρ:Nat→Int} {m m':Mp} {P:Program}
def RdIn (P:Program) (B:Nat) (args:List Value) (w:World) (R:Ending→World→Prop):Prop:=
 ∃ rec:Loop,w.heap[B]?=some (.loop rec)∧args.length=rec.params.size∧RoundIn (WF none) 0 P B rec.fn ((rec.params.zip args.toArray).foldl (fun t (x:Tmp × Value)=>t.setIfInBounds x.1 x.2) rec.tmps) rec.assign rec.body w R
def ClOk (P:Program) (ρ:Nat→Int) (g:Nat) (cl:Cl'):Prop:=∀ f c fl h n v h' n',cl f c fl h n=.ok v h' n'→g≤fl→fl≤n→Ab fl h n h' n' ∧
 (f < BND→known P f=true∧∀ (m:Mp) (w:World) (vs:List Value),Sim P ρ m g h w→Glob P ρ m→denC ρ m c vs→Fresh n n' m→Calls P f vs.toArray w (fun e w'=>∃ u m',e=.returned u∧Tr P ρ g fl h n m w h' n' m' w'∧den ρ m' v u)) ∧
 (BND≤f→∀ (m:Mp) (w:World) (vs:List Value),Sim P ρ m g h w→Glob P ρ m→denC ρ m c vs→Fresh n n' m→∃ B args,vs=.map (some B)::args∧RdIn P B args w (fun e w'=>∃ u m',e=.returned u∧Tr P ρ g fl h n m w h' n' m' w'∧den ρ m' v u))
section
variable {g fl n n' nt lim:Nat} {h h':HT} {t:FT} {a:Act} {o:Oper} {w:World} {v:RV} {ys:Ys} {cl:Cl'}
theorem known_lt {f:Nat} (hk:known P f=true):f < BND:=by
 unfold known at hk
 cases hf:P.funcs[f]? with
 | none=>rw [hf] at hk; cases hk
 | some fn=>
  rw [hf] at hk
  simp only [Bool.and_eq_true] at hk
  have:=hk.2
  simp [Nat.blt] at this
  show f < 16777216
  omega
theorem known_run {f:FuncId} (hk:known P f=true) (args:Array Value) (w:World):(callFunc f args).run P w=.ok (.enter f args) w:=by
 unfold known at hk
 cases hf:P.funcs[f]? with
 | none=>rw [hf] at hk; cases hk
 | some fn=>
  rw [hf] at hk
  simp only [Bool.and_eq_true,bne_iff_ne,ne_eq] at hk
  obtain ⟨⟨h1,h2⟩,_⟩:=hk
  have h3:¬ fn.body=none:=fun q=>by rw [q] at h1; cases h1
  simp [callFunc,hf,h2,h3]
theorem op_call {f:FuncId} {args:Array Value} {K:Act→World→Prop} {Q:Exit→Act→World→Prop} {R:Value→World→Prop} (hr:(execOp a.eval o).run P w=.ok (.enter f args) w) (hC:Calls P f args w (fun e w'=>∃ u,e=.returned u∧R u w')) (hK:∀ u w',R u w'→K (a.put o.dst u) w'):∀ r,o.wpIn (WF r) 0 P a w K Q:=fun r=>by
 refine ⟨fun _ _=>trivial,?_⟩
 rw [semAt_ok hr (fun d h=>by cases h)]
 refine ⟨fun h=>(by cases h),(calls_wf hC).mono ?_⟩
 rintro e w' ⟨u,rfl,hR⟩
 exact hK u w' hR
theorem op_round {l:Nat} {f:FuncId} {tmps:Array Value} {asg body:Code} {K:Act→World→Prop} {Q:Exit→Act→World→Prop} {R:Value→World→Prop} (hr:(execOp a.eval o).run P w=.ok (.round l f tmps asg body) w)
  (hC:RoundIn (WF none) 0 P l f tmps asg body w (fun e w'=>∃ u,e=.returned u∧R u w')) (hK:∀ u w',R u w'→K (a.put o.dst u) w'):∀ r,o.wpIn (WF r) 0 P a w K Q:=fun r=>by
 refine ⟨fun _ _=>trivial,?_⟩
 rw [semAt_ok hr (fun d h=>by cases h)]
 refine ⟨fun h=>(by cases h),RoundIn.mono (F:=WF r) hC ?_⟩
 rintro e w' ⟨u,rfl,hR⟩
 exact hK u w' hR
theorem slCells_ok' (s:Sim P ρ m g h w) {es q:Nat} {x r:RV} {u:Value} (hd:den ρ m x u) (e:slCells h es x q=r) (hr:r ≠ .un) (h0:0 < q) :
  ∃ A len cap cs,u=.slice (some A) len cap∧chLen r=some (q * es)∧cs.length=q * es∧denC ρ m r cs∧(∀ x ∈ cs,Cell x)∧∀ (j:Nat) (u:Value),cs[j]?=some u→w.cell? (A.add j)=some u:=by
 unfold slCells at e
 rcases gL_ok e hr.symm with ⟨rfl,e2⟩ | ⟨b,k,l,c,rfl,e2⟩ | ⟨b,k,l,f,rfl,e2⟩ | ⟨b,f,rfl,e2⟩
 ·obtain ⟨h1,_⟩:=bf_ok e2 hr.symm
  have:=beq_ok h1; omega
 ·obtain ⟨_,e3⟩:=bf_ok e2 hr.symm
  obtain ⟨c',z,B,O,Z,C,el,fr,cs,_,g2,g3,_,g5,g6,g7,g8,g9⟩:=rowCells_ok s e3 hr h0
  obtain ⟨B',O',Z',hm,_,hx⟩:=hd
  rw [g2] at hm
  cases hm
  exact ⟨_,l,c,cs,hx,g5,g6,g7,g8,fun j u hj=>by rw [add_at,cell_at g3]; exact g9 j u hj⟩
 ·obtain ⟨_,e3⟩:=bf_ok e2 hr.symm
  obtain ⟨c',z,B,O,Z,C,el,fr,cs,_,g2,g3,_,g5,g6,g7,g8,g9⟩:=rowCells_ok s e3 hr h0
  obtain ⟨B',O',Z',cc,hm,_,_,hx⟩:=hd
  rw [g2] at hm
  cases hm
  exact ⟨_,l,cc,cs,hx,g5,g6,g7,g8,fun j u hj=>by rw [add_at,cell_at g3]; exact g9 j u hj⟩
 ·obtain ⟨h1,_⟩:=bf_ok e2 hr.symm
  have:=beq_ok h1; omega
theorem zeros_list {cells:Array Value} (h0:0 < cells.size) (l:Nat):(Builtin.zeroCells cells l).toList=(List.replicate l cells.toList).flatten:=by
 apply List.ext_getElem?
 intro j
 have hlen:(List.replicate l cells.toList).flatten.length=l * cells.size:=by simp [List.length_flatten]
 unfold Builtin.zeroCells
 by_cases hj:j < l * cells.size
 ·have hmod:j % cells.size < cells.size:=Nat.mod_lt _ h0
  have:=flat_get cells.toList (by simpa using h0) l j (by simpa using hj)
  simp only [Array.length_toList] at this
  rw [this]
  simp [hj,getElem!_pos cells (j % cells.size) hmod]
 ·rw [List.getElem?_eq_none (by simp; omega),List.getElem?_eq_none (by rw [hlen]; omega)]
variable (F:Fr P ρ m nt t a.tmps) (s:Sim P ρ m g h w)
include F s
theorem ok_ap0 (hgf:g≤fl) (hf:fl≤n) {c:Call} {x y:Operand} {ty tx el:TypeId} {i:TypeInfo} {z0:Value} (ho:o.op=.call c) (hc:c.callee=.builtin .append) (hx:c.args.toList=[x,y]) (hty:c.argTypes.toList=[ty,tx]) (hk2:(∃ e',P.underlying tx=some (.slice e')) ∨ P.underlying tx=some .string)
  (ht:P.underlying ty=some (.slice el)) (hi:P.info? el=some i) (hz0:i.zero=some z0) (hsz:0 < i.size) (hM:i.size < 1048576) (hzc:z0.cells.size=i.size) (hb1:i.bytes≤65536)
  (e1:app fl i.size (ev t (opd P nt x)) (ev t (opd P nt y)) h n=.ok v h' n'):Ok1 P ρ g fl o a m w h n v h' n':=by
 have hux:ev t (opd P nt x) ≠ .un:=fun q=>by
  rw [q] at e1
  unfold app at e1
  obtain ⟨q1,_,e2⟩:=gO_ok e1 (by simp)
  rcases bf_or e2 with ⟨_,e3⟩ | ⟨_,e3⟩
  ·obtain ⟨_,hl,_⟩:=gO_ok e3 (by simp); cases hl
  ·obtain ⟨_,e4⟩:=bf_ok e3 (by simp)
   obtain ⟨_,e5⟩:=nU_ok e4 (by simp)
   obtain ⟨_,hl,_⟩:=gO_ok e5 (by simp); cases hl
 have huy:ev t (opd P nt y) ≠ .un:=fun q=>by
  rw [q] at e1
  unfold app at e1
  obtain ⟨q1,hl,e2⟩:=gO_ok e1 (by simp); cases hl
 obtain ⟨hab,hrun⟩:=app_ok (rt:=o.type) s hgf hf ht hk2 hi hz0 hsz hM hzc hb1 (opd_ok F x hux) (opd_ok F y huy) e1
 refine ⟨hab,fun hfr K Q hK=>?_⟩
 obtain ⟨r,w',m',h1,h2,h3⟩:=hrun hfr
 refine op_value (w':=w') (u:=r) ?_ (hK r w' m' h2 h3)
 simp [execOp,ho,resolve,hc,two_arr hx,two_arr hty,invoke,builtin,h1]
omit F s in
theorem adds_zeros {ty tx rt e:TypeId} {i:TypeInfo} {z:Value} {k0:IntKind} (ht:P.underlying ty=some (.slice e)) (hu:P.underlying tx=some (.int k0)) (hi:P.info? e=some i) (hz:i.zero=some z) (hsz:0 < i.size) (hzc:z.cells.size=i.size) {q:Nat} (h0:0 < q) (hq:q≤65536) (hb:i.bytes≤65536) (hc:∀ x ∈ z.cells.toList,Cell x) :
  Adds P ty tx rt e i z (.int .i64 q) q (List.replicate q z.cells.toList).flatten w:=by
 have w1:IntKind.i64.wrap (q:Int)=q:=IntWalk.i64_in _ (by omega)
 have hmul:q * i.bytes≤4294967296:=Nat.mul_le_mul hq hb
 have hm:¬ (281474976710656 < (q:Int) * (i.bytes:Int)):=by
  have h2:((q * i.bytes:Nat):Int)≤4294967296:=Int.ofNat_le.2 hmul
  rw [Int.natCast_mul] at h2
  omega
 have hneg:¬ ((q:Int) < 0):=by omega
 have hqs:¬ (q * i.size=0):=by
  have:=Nat.mul_pos h0 hsz
  omega
 have hzz:(Builtin.zeroCells z.cells q).toList=(List.replicate q z.cells.toList).flatten:=zeros_list (cells:=z.cells) (by omega) q
 have hcell:∀ x ∈ (List.replicate q z.cells.toList).flatten,Cell x:=by
  intro x hx
  obtain ⟨r,hr,hxr⟩:=List.mem_flatten.1 hx
  rw [List.eq_of_mem_replicate hr] at hxr
  exact hc x hxr
 refine ⟨fun {B off sLen sCap C el2} hh hroom hfit=>?_,fun base sLen sCap olds ho hg h63 hfit=>?_⟩
 ·have hst:=run_lay (P:=P) hh hfit hcell
  simp [Builtin.append_,run_underlying ht,run_underlying hu,sizeOf,typeInfo,zeroValue,hi,hz,asInt,asIntOf,w1,hneg,hm,hroom,hqs,add_at,hzz,hst]
 ·have hn:¬ (sLen + q≤sCap):=by omega
  have h63':¬ (9223372036854775807 < ((sLen:Int) + (q:Int))):=by omega
  have h48':¬ (281474976710656 < Builtin.nextslicecap (sLen + q) sCap * i.bytes):=by omega
  simp [Builtin.append_,run_underlying ht,run_underlying hu,sizeOf,typeInfo,zeroValue,hi,hz,asInt,asIntOf,w1,hneg,hm,hn,h63',h48',hqs,Question.forced,ho,newRow,grownCap]
  congr 2
  apply Array.ext'
  simp [hzz,List.append_assoc]
theorem ok_az (hgf:g≤fl) (hf:fl≤n) {c:Call} {x y:Operand} {ty ty2 el:TypeId} {i:TypeInfo} {z0:Value} {k0:IntKind} (ho:o.op=.call c) (hc:c.callee=.builtin .append) (hx:c.args.toList=[x,y]) (hty:c.argTypes.toList=[ty,ty2])
  (ht:P.underlying ty=some (.slice el)) (hu:P.underlying ty2=some (.int k0)) (hi:P.info? el=some i) (hz0:i.zero=some z0) (hsz:0 < i.size) (hM:i.size < 1048576) (hzc:z0.cells.size=i.size) (hb1:i.bytes≤65536) (hk:z0.cells.toList.all knownAtom=true)
  (e:step (.az i.size (chain z0.cells.toList) (opd P nt x) (opd P nt y)) ys cl fl lim t h n=.ok v h' n'):Ok1 P ρ g fl o a m w h n v h' n':=by
 have e1:gI (.bad [171]) (ev t (opd P nt y)) (fun j a=>bf (is64 j) (bf (nonI a) (bf (Nat.ble (natI a) 65536) (gO (.bad [170]) (slLen (ev t (opd P nt x))) fun l=>bf (Nat.beq (natI a) 0) (okV (ev t (opd P nt x)) h n 172)
  (bf (Nat.ble l 1048576) (nU (.bad [177]) (rep (chain z0.cells.toList) (natI a)) fun c=>gO (.bad [176]) (chLen c) fun q=>bf (Nat.beq q (Nat.mul (natI a) i.size)) (appC fl i.size (ev t (opd P nt x)) (natI a) c h n) (.bad [179])) (.bad [178]))) (.bad [173])) (.bad [174])) (.bad [175]))=.ok v h' n':=e
 obtain ⟨j,q0,hq,e3⟩:=gI_ok e1 (by simp)
 obtain ⟨hj,e4⟩:=bf_ok e3 (by simp)
 obtain rfl:=is64_ok hj
 obtain ⟨h1,e5⟩:=bf_ok e4 (by simp)
 obtain ⟨h3,e6⟩:=bf_ok e5 (by simp)
 obtain ⟨l,hl,e7⟩:=gO_ok e6 (by simp)
 have dy:=opd_ok F y (by rw [hq]; simp)
 rw [hq] at dy
 have hyv:a.eval y=.int .i64 (natI q0):=by rw [show a.eval y=.int .i64 q0 from dy,← nonI_ok h1]
 have g3:=ble_ok h3
 have hux:ev t (opd P nt x) ≠ .un:=fun p=>by rw [p] at hl; cases hl
 have dx:=opd_ok F x hux
 generalize natI q0=q at *
 rcases bf_or e7 with ⟨h2,e8⟩ | ⟨h2,e8⟩
 ·obtain rfl:=beq_ok h2
  obtain ⟨_,rfl,rfl,rfl⟩:=okV_ok e8
  obtain ⟨p,cp,hxv,hlc⟩:=slLen_ok hl dx
  have w1:IntKind.i64.wrap (0:Int)=0:=IntWalk.i64_in _ (by omega)
  refine Ok1.quiet (u:=a.eval x) s ?_ dx
  rw [hxv]
  rw [hxv] at dx
  cases p <;> simp [execOp,ho,resolve,hc,two_arr hx,two_arr hty,invoke,builtin,hxv,hyv,Builtin.append_,run_underlying ht,run_underlying hu,sizeOf,typeInfo,hi,asInt,asIntOf,w1,hlc,storeCells]
 ·have h0:0 < q:=by
   rcases Nat.eq_zero_or_pos q with p | p
   ·rw [p] at h2; simp at h2
   ·exact p
  obtain ⟨hlm,e9⟩:=bf_ok e8 (by simp)
  obtain ⟨hne,e10⟩:=nU_ok e9 (by simp)
  obtain ⟨zl,hzl,e11⟩:=gO_ok e10 (by simp)
  obtain ⟨hzq,e12⟩:=bf_ok e11 (by simp)
  obtain rfl:=beq_ok hzq
  have hzk:=allKnown hk
  have hd:=rep_ok (ρ:=ρ) (m:=m) (chain_ok z0.cells.toList).1 q hne
  have hA:=adds_zeros (P:=P) (w:=w) (rt:=o.type) ht hu hi hz0 hsz hzc h0 g3 hb1 hzk
  have hcell:∀ x ∈ (List.replicate q z0.cells.toList).flatten,Cell x:=by
   intro x hx
   obtain ⟨r,hr,hxr⟩:=List.mem_flatten.1 hx
   rw [List.eq_of_mem_replicate hr] at hxr
   exact hzk x hxr
  obtain ⟨hab,hrun⟩:=appC_ok s hgf hf hsz hM hzc hb1 dx hA hzl (by simp [List.length_flatten,hzc]) hd hcell h0 (by omega) hl (ble_ok hlm) e12
  refine ⟨hab,fun hfr K Q hK=>?_⟩
  obtain ⟨r,w',m',h1,h2,h3⟩:=hrun hfr
  refine op_value (w':=w') (u:=r) ?_ (hK r w' m' h2 h3)
  simp [execOp,ho,resolve,hc,two_arr hx,two_arr hty,invoke,builtin,hyv,h1]
theorem ok_cy (hgf:g≤fl) (hf:fl≤n) {c:Call} {x y:Operand} {ty ty2 el:TypeId} {sz:Nat} (ho:o.op=.call c) (hc:c.callee=.builtin .copy) (hx:c.args.toList=[x,y]) (hty:c.argTypes.toList=[ty,ty2])
  (ht:P.underlying ty=some (.slice el)) (hs:szOf P el=some sz) (hsz:0 < sz)
  (e:step (.cy sz (opd P nt x) (opd P nt y)) ys cl fl lim t h n=.ok v h' n'):Ok1 P ρ g fl o a m w h n v h' n':=by
 have e1:gO (SR.bad [77]) (slLen (ev t (opd P nt x))) (fun a=>gO (SR.bad [78]) (slLen (ev t (opd P nt y))) fun b=>bf (Nat.beq (bf (Nat.ble b a) b a) 0) (SR.ok (.i .i64 (Int.ofNat 0)) h n)
  (nU (SR.bad [79]) (slCells h sz (ev t (opd P nt y)) (bf (Nat.ble b a) b a)) fun c=>stSl fl (ev t (opd P nt x)) c h n (mkI .i64 (Int.ofNat (bf (Nat.ble b a) b a)))))=.ok v h' n':=e
 obtain ⟨la,hla,e2⟩:=gO_ok e1 (by simp)
 obtain ⟨lb,hlb,e3⟩:=gO_ok e2 (by simp)
 have dx:=opd_ok F x (fun q=>by rw [q] at hla; cases hla)
 have dy:=opd_ok F y (fun q=>by rw [q] at hlb; cases hlb)
 obtain ⟨p,cp,hxv,_⟩:=slLen_ok hla dx
 obtain ⟨p',cp',hyv,_⟩:=slLen_ok hlb dy
 have hmin:bf (Nat.ble lb la) lb la=Nat.min lb la:=by
  rw [bf_eq]
  show _=(if lb≤la then lb else la)
  by_cases hle:lb≤la
  ·rw [if_pos (ble_yes hle),if_pos hle]
  ·rw [if_neg (by rw [ble_no (by omega)]; simp),if_neg hle]
 rw [hmin] at e3
 rcases bf_or e3 with ⟨h1,e4⟩ | ⟨h1,e4⟩
 ·have hm0:=beq_ok h1
  cases e4
  have hfc:(Builtin.firstCells sz 0 (a.eval y)).run P w=.ok #[] w:=by
   rw [hyv]
   cases p' with
   | none=>simp [Builtin.firstCells]
   | some A=>simp [Builtin.firstCells,loadCells,loadCellsFrom]
  refine Ok1.quiet (u:=.int .i64 0) s ?_ rfl
  have hlen:(Builtin.lenOf (a.eval y)).run P w=.ok lb w:=by rw [hyv]; rfl
  cases p with
  | none=>simp [execOp,ho,resolve,hc,two_arr hx,two_arr hty,invoke,builtin,Builtin.copy_,run_underlying ht,hxv,hlen,szOf_run hs,hm0,hfc,goInt]
  | some A=>simp [execOp,ho,resolve,hc,two_arr hx,two_arr hty,invoke,builtin,Builtin.copy_,run_underlying ht,hxv,hlen,szOf_run hs,hm0,hfc,goInt,storeCells]
 ·obtain ⟨hcu,e5⟩:=nU_ok e4 (by simp)
  have hq0:0 < Nat.min lb la:=by
   rcases Nat.eq_zero_or_pos (Nat.min lb la) with p | p
   ·rw [p] at h1; simp at h1
   ·exact p
  obtain ⟨A,len,cap,cs,hyv',n1,n2,n3,n4,n5⟩:=slCells_ok' s dy rfl hcu hq0
  rw [hyv] at hyv'
  cases hyv'
  have hlen:(Builtin.lenOf (a.eval y)).run P w=.ok lb w:=by rw [hyv]; rfl
  have hfc:(Builtin.firstCells sz (Nat.min lb la) (a.eval y)).run P w=.ok cs.toArray w:=by
   rw [hyv]; exact run_firstCells_some w sz _ A lb cp' cs n2 n5
  have hne:cs ≠ []:=List.ne_nil_of_length_pos (by rw [n2]; exact Nat.mul_pos hq0 hsz)
  unfold stSl at e5
  have fin:∀ {b k:Nat} {hh:SR},stBlk fl h b k (slCells h sz (ev t (opd P nt y)) (Nat.min lb la)) n=hh→gR hh (fun _ h n=>okV (mkI .i64 (Int.ofNat (Nat.min lb la))) h n 75)=.ok v h' n'→(∃ B O Z,m b=some (B,O,Z)∧p=some ⟨B,O + k,none⟩)→Ok1 P ρ g fl o a m w h n v h' n':=by
   rintro b k hh e6 e7 ⟨B,O,Z,hm,hp⟩
   obtain ⟨v1,h1',n1',e8,e9⟩:=gR_ok e7
   rw [e8] at e6
   obtain ⟨_,rfl,hab,B',O',Z',C,el',g1,g2,g3,g4⟩:=stBlk_ok (n:=n) s hgf n3 hne n4 e6
   obtain ⟨_,rfl,rfl,rfl⟩:=okV_ok e9
   rw [hm] at g1
   cases g1
   refine ⟨hab,fun _ K Q hK=>op_value (w':=w.setRow B (laid C (O + k) cs)) (u:=.int .i64 (Nat.min lb la:Nat)) ?_ (hK _ _ _ g4 (by rw [mkI_eq]; rfl))⟩
   have hst:=run_lay (P:=P) g2 g3 n4
   simp [execOp,ho,resolve,hc,two_arr hx,two_arr hty,invoke,builtin,Builtin.copy_,run_underlying ht,hxv,hp,hlen,szOf_run hs,hfc,goInt,hst]
  rcases gL_ok e5 (by simp) with ⟨_,e6⟩ | ⟨b,k,l,c',hx2,e6⟩ | ⟨b,k,l,f,hx2,e6⟩ | ⟨_,_,_,e6⟩
  ·cases e6
  ·rw [hx2] at dx
   obtain ⟨B,O,Z,hm,_,hxx⟩:=dx
   rw [hxv] at hxx
   cases hxx
   exact fin rfl e6 ⟨B,O,Z,hm,rfl⟩
  ·rw [hx2] at dx
   obtain ⟨B,O,Z,cc,hm,_,_,hxx⟩:=dx
   rw [hxv] at hxx
   cases hxx
   exact fin rfl e6 ⟨B,O,Z,hm,rfl⟩
  ·cases e6
theorem ok_cr (hgf:g≤fl) (hf:fl≤n) {c:Call} {x:Operand} {ty el:TypeId} {i:TypeInfo} {z:Value} (ho:o.op=.call c) (hc:c.callee=.builtin .clear) (hx:c.args.toList=[x]) (hty:c.argTypes.toList=[ty])
  (ht:P.underlying ty=some (.slice el)) (hi:P.info? el=some i) (hz:i.zero=some z) (h0:0 < i.size) (hzs:z.cells.size=i.size) (hk:z.cells.toList.all knownAtom=true)
  (e:step (.cr (chain z.cells.toList) (opd P nt x)) ys cl fl lim t h n=.ok v h' n'):Ok1 P ρ g fl o a m w h n v h' n':=by
 have e1:gO (SR.bad [84]) (slLen (ev t (opd P nt x))) (fun l=>bf (Nat.beq l 0) (SR.ok (.tup .nil) h n) (nU (SR.bad [85]) (rep (chain z.cells.toList) l) fun c=>stSl fl (ev t (opd P nt x)) c h n (.tup .nil)))=.ok v h' n':=e
 obtain ⟨l,hl,e2⟩:=gO_ok e1 (by simp)
 have dx:=opd_ok F x (fun q=>by rw [q] at hl; cases hl)
 obtain ⟨p,cp,hxv,hp0⟩:=slLen_ok hl dx
 have hz0:zeroOf P el=some z:=by unfold zeroOf; rw [hi]; exact hz
 rcases bf_or e2 with ⟨h1,e4⟩ | ⟨h1,e4⟩
 ·have hm0:=beq_ok h1
  subst hm0
  cases e4
  refine Ok1.quiet (u:=.tuple #[]) s ?_ ⟨[],denC_nil.2 rfl,rfl⟩
  cases p with
  | none=>simp [execOp,ho,resolve,hc,one_arr hx,one_arr hty,invoke,builtin,Builtin.clear_,run_underlying ht,hxv]
  | some A=>simp [execOp,ho,resolve,hc,one_arr hx,one_arr hty,invoke,builtin,Builtin.clear_,run_underlying ht,hxv]
 ·obtain ⟨hcu,e5⟩:=nU_ok e4 (by simp)
  have hl0:0 < l:=by
   rcases Nat.eq_zero_or_pos l with q | q
   ·rw [q] at h1; simp at h1
   ·exact q
  have hzc:=allKnown hk
  have hd:=rep_ok (ρ:=ρ) (m:=m) (chain_ok z.cells.toList).1 l hcu
  have hcell:∀ x ∈ (List.replicate l z.cells.toList).flatten,Cell x:=by
   intro x hx
   obtain ⟨r,hr,hxr⟩:=List.mem_flatten.1 hx
   rw [List.eq_of_mem_replicate hr] at hxr
   exact hzc x hxr
  have hne:(List.replicate l z.cells.toList).flatten ≠ []:=List.ne_nil_of_length_pos (by rw [show (List.replicate l z.cells.toList).flatten.length=l * z.cells.size by simp [List.length_flatten]]; exact Nat.mul_pos hl0 (by omega))
  have hzl:=zeros_list (cells:=z.cells) (by omega) l
  unfold stSl at e5
  have fin:∀ {b k:Nat} {hh:SR},stBlk fl h b k (rep (chain z.cells.toList) l) n=hh→gR hh (fun _ h n=>okV (.tup .nil) h n 75)=.ok v h' n'→(∃ B O Z,m b=some (B,O,Z)∧p=some ⟨B,O + k,none⟩)→Ok1 P ρ g fl o a m w h n v h' n':=by
   rintro b k hh e6 e7 ⟨B,O,Z,hm,hp⟩
   obtain ⟨v1,h1',n1',e8,e9⟩:=gR_ok e7
   rw [e8] at e6
   obtain ⟨_,rfl,hab,B',O',Z',C,el',g1,g2,g3,g4⟩:=stBlk_ok (n:=n) s hgf hd hne hcell e6
   obtain ⟨_,rfl,rfl,rfl⟩:=okV_ok e9
   rw [hm] at g1
   cases g1
   refine ⟨hab,fun _ K Q hK=>op_value (w':=w.setRow B (laid C (O + k) (List.replicate l z.cells.toList).flatten)) (u:=.tuple #[]) ?_ (hK _ _ _ g4 ⟨[],denC_nil.2 rfl,rfl⟩)⟩
   have hst:=run_lay (P:=P) g2 g3 hcell
   rw [← hzl] at hst
   have hl':l ≠ 0:=by omega
   rw [← hzl]
   match l,hl',hxv,hst with
   | l + 1,_,hxv,hst=>simp [execOp,ho,resolve,hc,one_arr hx,one_arr hty,invoke,builtin,Builtin.clear_,run_underlying ht,hxv,hp,zeroOf_run hz0,hst]
  rcases gL_ok e5 (by simp) with ⟨_,e6⟩ | ⟨b,k,l',c',hx2,e6⟩ | ⟨b,k,l',f,hx2,e6⟩ | ⟨_,_,_,e6⟩
  ·cases e6
  ·rw [hx2] at dx
   obtain ⟨B,O,Z,hm,_,hxx⟩:=dx
   rw [hxv] at hxx
   cases hxx
   exact fin rfl e6 ⟨B,O,Z,hm,rfl⟩
  ·rw [hx2] at dx
   obtain ⟨B,O,Z,cc,hm,_,_,hxx⟩:=dx
   rw [hxv] at hxx
   cases hxx
   exact fin rfl e6 ⟨B,O,Z,hm,rfl⟩
  ·cases e6
theorem ok_cl (hcl:ClOk P ρ g cl) (hgf:g≤fl) (hf:fl≤n) {c:Call} {f:FuncId} (ho:o.op=.call c) (hc:c.callee=.value (.func f)) (hk:known P f=true) (hlt:f < BND)
  (e:step (.cl f (c.args.toList.map (opd P nt))) ys cl fl lim t h n=.ok v h' n'):Ok1 P ρ g fl o a m w h n v h' n':=by
 have e1:nU (SR.bad [65]) (evL t (c.args.toList.map (opd P nt))) (fun c=>cl f c fl h n)=.ok v h' n':=e
 obtain ⟨hu,e2⟩:=nU_ok e1 (by simp)
 obtain ⟨hab,hc1,_⟩:=hcl f _ fl h n v h' n' e2 hgf hf
 obtain ⟨_,hcall⟩:=hc1 hlt
 refine ⟨hab,fun hfr K Q hK=>?_⟩
 have hC:=hcall m w (c.args.toList.map a.eval) s F.glob (evL_ok F _ hu) hfr
 refine op_call (f:=f) (args:=(c.args.toList.map a.eval).toArray) (R:=fun u w'=>∃ m',Tr P ρ g fl h n m w h' n' m' w'∧den ρ m' v u) ?_ (hC.mono fun e w' ⟨u,m',h1,h2,h3⟩=>⟨u,h1,m',h2,h3⟩) (fun u w' ⟨m',h2,h3⟩=>hK u w' m' h2 h3)
 have hargs:c.args.map a.eval=(c.args.toList.map a.eval).toArray:=by apply Array.ext'; simp
 simp [execOp,ho,resolve,hc,Act.eval,Deferred.ofValue,invoke,known_run hk]
 exact hargs
/-! a row of bytes as a string -/
omit F s in
theorem chS_ok:∀ {c:RV} {l:List Nat} {us:List Value},chS c=some l→denC ρ m c us→us=l.map (fun z=>Value.int .u8 (z:Nat))∧∀ x ∈ l,x < 256:=by
 intro c
 induction c with
 | nil=>
  intro l us h hd
  have h':some []=some l:=h
  cases h'
  exact ⟨denC_nil.1 hd,fun _ h=>by cases h⟩
 | cons x r _ ih=>
  intro l us h hd
  have h':gI none x (fun k z=>bf (eqK k .u8) (bf (nonI z) (bf (Nat.ble (natI z) 255) (gO none (chS r) fun l=>some (natI z::l)) none) none) none)=some l:=h
  obtain ⟨k,z,rfl,h2⟩:=gI_ok h' (by simp)
  obtain ⟨e1,h3⟩:=bf_ok h2 (by simp)
  obtain ⟨e2,h4⟩:=bf_ok h3 (by simp)
  obtain ⟨e3,h5⟩:=bf_ok h4 (by simp)
  obtain ⟨l',e4,h6⟩:=gO_ok h5 (by simp)
  cases h6
  obtain rfl:=eqK_ok e1
  obtain ⟨u,us',rfl,h7,h8⟩:=denC_cons.1 hd
  obtain ⟨rfl,h9⟩:=ih e4 h8
  have h7:u=.int .u8 z:=h7
  have e5:=ble_ok e3
  refine ⟨?_,fun y hy=>?_⟩
  ·rw [List.map_cons,h7]
   congr 2
   exact nonI_ok e2
  ·rcases List.mem_cons.1 hy with rfl | hy
   ·omega
   ·exact h9 y hy
 | _=>intro l us h hd; cases h
omit F s in
theorem push_bytes:∀ (l:List Nat) (r:ByteArray),(l.map fun (z:Nat)=>(z:Int)).foldl (fun r n=>r.push (UInt8.ofNat n.toNat)) r=⟨r.data ++ (l.map UInt8.ofNat).toArray⟩
 | [],r=>by simp
 | x::l,r=>by
  rw [List.map_cons,List.foldl_cons,push_bytes l]
  show ByteArray.mk ((r.data.push (UInt8.ofNat (x:Int).toNat)) ++ (l.map UInt8.ofNat).toArray)=_
  congr 1
  apply Array.ext'
  simp
theorem ok_b20 {sr ds el:TypeId} {x:Operand} (ho:o.op=.convert sr ds x) (hs:P.underlying sr=some (.slice el)) (hd:P.underlying ds=some .string) (he:P.underlying el=some (.int .u8)) (e:rdS (ev t (opd P nt x)) h n=.ok v h' n'):Ok1 P ρ g fl o a m w h n v h' n':=by
 have e1:gO (SR.bad [192]) (slLen (ev t (opd P nt x))) (fun q=>bf (Nat.ble q 1048576) (nU (.bad [193]) (slCells h 1 (ev t (opd P nt x)) q) fun c=>gO (.bad [194]) (chS c) fun l=>.ok (.s l) h n) (.bad [195]))=.ok v h' n':=e
 obtain ⟨q,hq,e2⟩:=gO_ok e1 (by simp)
 obtain ⟨_,e3⟩:=bf_ok e2 (by simp)
 obtain ⟨hcu,e4⟩:=nU_ok e3 (by simp)
 obtain ⟨l,hl,e5⟩:=gO_ok e4 (by simp)
 cases e5
 have dx:=opd_ok F x (fun p=>by rw [p] at hq; cases hq)
 rcases Nat.eq_zero_or_pos q with rfl | h0
 ·obtain ⟨p,c,hx,_⟩:=slLen_ok hq dx
  have hc:slCells h 1 (ev t (opd P nt x)) 0=.nil:=by
   have key:∀ r:RV,slLen r=some 0→slCells h 1 r 0=.nil:=fun r hr=>by
    cases r <;> first | (cases hr; done) | rfl | (cases hr; rfl)
   exact key _ hq
  rw [hc] at hl
  cases hl
  have hrun:(Conv.bytesToString (.slice p 0 c)).run P w=.ok (.string ⟨#[]⟩) w:=by
   cases p with
   | none=>rfl
   | some A=>
    have:=run_bytesToString (P:=P) w A 0 c [] (by simp [loadCells,loadCellsFrom])
    exact this
  exact Ok1.quiet (u:=.string ⟨#[]⟩) s (by cases p <;> simp [execOp,ho,convert,run_underlying hs,run_underlying hd,run_underlying he,hx,hrun]) ⟨rfl,fun _ h=>by cases h⟩
 ·obtain ⟨A,cap,cs,hx,g1,g2,g3,g4,g5⟩:=slCells_ok s dx rfl hcu h0 hq
  obtain ⟨rfl,hb⟩:=chS_ok hl g3
  have hld:=run_loadCells_list (P:=P) w A _ g5
  rw [g2,Nat.mul_one] at hld
  have hrun:=run_bytesToString (P:=P) w A q cap (l.map fun (z:Nat)=>(z:Int)) (by rw [hld,List.map_map]; rfl)
  rw [push_bytes] at hrun
  refine Ok1.quiet (u:=.string ⟨(l.map UInt8.ofNat).toArray⟩) s ?_ ⟨rfl,hb⟩
  simp [execOp,ho,convert,run_underlying hs,run_underlying hd,run_underlying he,hx,hrun]
/-! a call through an interface -/
def MethOk (P:Program) (ρ:Nat→Int) (m:Mp) (name:String):IvE→Prop
 | .e ty f st g off sz=>known P f=true∧∀ (u:Value) (y r:RV) (h:HT) (n:Nat) (h':HT) (n':Nat) (w:World) (k:Nat),den ρ m y u→ivR st g off sz y h n=.ok r h' n'→∃ u',(method (k + 1) ty u name).run P w=.ok (f,u') w∧den ρ m r u'
omit F s in
theorem receiver_plain {t:TypeId} {d:TypeDesc} (hu:P.underlying t=some d) (hn:∀ e,d ≠ .pointer e) (u:Value) (o:Option String) (w:World):(receiverAt t (.val u) false o).run P w=.ok u w:=by
 unfold receiverAt
 cases d with
 | pointer e=>exact absurd rfl (hn e)
 | _=>simp [run_underlying hu,Place.get]
omit F s in
theorem ivAt_ok {name:String} {t:Nat} {e:IvE} (h:ivAt P name t=some e):MethOk P ρ m name e:=by
 unfold ivAt at h
 simp only [Option.bind_eq_bind,Option.bind_eq_some_iff] at h
 obtain ⟨i,hi,q,hq,⟨f,pr⟩,hf,h⟩:=h
 split at h
 ·rename_i hk
  obtain ⟨hpr,hk⟩:=hk
  have hpr:pr=false:=hpr
  subst hpr
  split at h
  ·rename_i hp
   split at h
   ·cases h
   ·rename_i d hne hu
    cases h
    refine ⟨hk,fun u y r h n h' n' w k hd hr=>?_⟩
    have hr:okV y h n 185=.ok r h' n':=hr
    obtain ⟨_,rfl,rfl,rfl⟩:=okV_ok hr
    refine ⟨u,?_,hd⟩
    have hr2:∀ o,(receiverAt t (.val u) false o).run P w=.ok u w:=fun o=>receiver_plain hu hne u o w
    unfold method
    simp [typeInfo,hi,hq,hp,follow,hf,hr2]
   ·cases h
  ·rename_i s0 hp
   split at h
   ·cases h
   ·rename_i hdr
    split at h
    ·rename_i fs hus
     simp only [Option.bind_eq_some_iff] at h
     obtain ⟨fd,hfd,sz,hsz,ag,hag,h⟩:=h
     split at h
     ·cases h
     ·rename_i d hne hu
      cases h
      refine ⟨hk,fun u y r h n h' n' w k hd hr=>?_⟩
      have hr:gA (.bad [184]) y (fun c=>partC ag c fd.offset sz h n)=.ok r h' n':=hr
      obtain ⟨c,rfl,h2⟩:=gA_ok hr (by simp)
      obtain ⟨cs,d1,d2,rfl⟩:=hd
      obtain ⟨_,_,v,hr3,hd3⟩:=part_ok (w:=w) d1 d2 hsz hag h2
      refine ⟨v,?_,hd3⟩
      have hr2:∀ o,(receiverAt fd.type (.val v) false o).run P w=.ok v w:=fun o=>receiver_plain hu hne v o w
      have hdf:s0.deref=false:=by simpa using hdr
      unfold method
      simp [typeInfo,hi,hq,hp,follow,hf,hr2,run_underlying hus,hfd,hdf,hr3]
     ·cases h
    ·cases h
  ·cases h
 ·cases h
omit F s in
theorem ivTab_ok {name:String}:∀ e ∈ ivTab P name,MethOk P ρ m name e:=by
 intro e he
 unfold ivTab at he
 obtain ⟨t,_,ht⟩:=List.mem_filterMap.1 he
 exact ivAt_ok ht
omit F s in
theorem ivL_ok {f:Nat} {y:RV} {k:Nat→RV→SR}:∀ {l:List IvE},ivL f l y h n k=.ok v h' n'→∃ ty g0 st ag off sz r h2 n2,IvE.e ty g0 st ag off sz ∈ l∧f=33554432 + ty∧ivR st ag off sz y h n=.ok r h2 n2∧k g0 r=.ok v h' n'
 | [],e=>by cases e
 | .e ty g0 st ag off sz::l,e=>by
  have e1:bf (Nat.beq f (Nat.add 33554432 ty)) (gR (ivR st ag off sz y h n) fun r _ _=>k g0 r) (ivL f l y h n k)=.ok v h' n':=e
  rcases bf_or e1 with ⟨hb,e2⟩ | ⟨_,e2⟩
  ·obtain ⟨r,h2,n2,e3,e4⟩:=gR_ok e2
   exact ⟨ty,g0,st,ag,off,sz,r,h2,n2,List.mem_cons_self ..,beq_ok hb,e3,e4⟩
  ·obtain ⟨a1,a2,a3,a4,a5,a6,a7,a8,a9,a10,a11⟩:=ivL_ok e2
   exact ⟨a1,a2,a3,a4,a5,a6,a7,a8,a9,List.mem_cons_of_mem _ a10,a11⟩
theorem ok_iv (hcl:ClOk P ρ g cl) (hgf:g≤fl) (hf:fl≤n) {c:Call} {x:Operand} {name:String} (ho:o.op=.call c) (hc:c.callee=.invoke x name)
  (e:step (.iv (ivTab P name) (opd P nt x) (c.args.toList.map (opd P nt))) ys cl fl lim t h n=.ok v h' n'):Ok1 P ρ g fl o a m w h n v h' n':=by
 have e1:gIf (.bad [189]) (ev t (opd P nt x)) (.bad [190]) (fun f v=>ivL f (ivTab P name) v h n fun g r=>nU (.bad [191]) (evL t (c.args.toList.map (opd P nt))) fun a=>cl g (.cons r a) fl h n)=.ok v h' n':=e
 obtain ⟨f,hf2,h1⟩:=gIf_ok e1
 rcases h1 with ⟨_,e2⟩ | ⟨y,hx,e2⟩
 ·cases e2
 have dx:=opd_ok F x (by rw [hx]; simp)
 rw [hx] at dx
 obtain ⟨u,hv,hd⟩:=den_if hf2 dx
 obtain ⟨ty,g0,st,ag,off,sz,r,h2,n2,hmem,hft,hr,e3⟩:=ivL_ok e2
 have hmo:MethOk P ρ m name (.e ty g0 st ag off sz):=ivTab_ok _ hmem
 obtain ⟨hk,hmeth⟩:=hmo
 obtain ⟨u2,hm2,hd2⟩:=hmeth u y r h n h2 n2 w (P.types.size + 99) hd hr
 have hft2:f - 33554432=ty:=by omega
 rw [hft2] at hv
 obtain ⟨hu,e4⟩:=nU_ok e3 (by simp)
 obtain ⟨hab,hc1,_⟩:=hcl g0 _ fl h n v h' n' e4 hgf hf
 obtain ⟨_,hcall⟩:=hc1 (known_lt hk)
 refine ⟨hab,fun hfr K Q hK=>?_⟩
 have hC:=hcall m w (u2::c.args.toList.map a.eval) s F.glob (denC_cons.2 ⟨_,_,rfl,hd2,evL_ok F _ hu⟩) hfr
 refine op_call (f:=g0) (args:=(u2::c.args.toList.map a.eval).toArray) (R:=fun u w'=>∃ m',Tr P ρ g fl h n m w h' n' m' w'∧den ρ m' v u) ?_ (hC.mono fun e w' ⟨u,m',h1,h2,h3⟩=>⟨u,h1,m',h2,h3⟩) (fun u w' ⟨m',h2,h3⟩=>hK u w' m' h2 h3)
 have hm3:(method (P.types.size + Made.depth) ty u name).run P w=.ok (g0,u2) w:=hm2
 have h0:(#[Value.iface ty u] ++ Array.map a.eval c.args)[0]?=some (.iface ty u):=by rw [Array.getElem?_append_left (by simp)]; rfl
 simp [execOp,ho,resolve,hc,hv,invoke,callMethod,hm3,known_run hk,h0]
 exact List.take_of_length_le (by simp)
theorem ok_cf (hcl:ClOk P ρ g cl) (hgf:g≤fl) (hf:fl≤n) {c:Call} {x:Operand} (ho:o.op=.call c) (hc:c.callee=.value x)
  (e:step (.cf (opd P nt x) (c.args.toList.map (opd P nt))) ys cl fl lim t h n=.ok v h' n'):Ok1 P ρ g fl o a m w h n v h' n':=by
 have e1:gF (SR.bad [66]) (ev t (opd P nt x)) (fun f c'=>nU (SR.bad [67]) (evL t (c.args.toList.map (opd P nt))) fun a=>bf (Nat.ble BND f) (gN (.bad [150]) c' (.bad [151]) fun y r=>bf (Nat.ble 33554432 f) (gN (.bad [153]) r (cl (Nat.sub f BND) (.cons y a) fl h n) fun _ _=>.bad [154]) (nU (.bad [152]) (chApp a r) fun q=>cl (Nat.sub f BND) (.cons y q) fl h n)) (nU (SR.bad [68]) (chApp a c') fun r=>cl f r fl h n))=.ok v h' n':=e
 obtain ⟨f,cc,hfx,e2⟩:=gF_ok e1 (by simp)
 obtain ⟨hu,e3⟩:=nU_ok e2 (by simp)
 have dx:=opd_ok F x (by rw [hfx]; simp)
 rw [hfx] at dx
 obtain ⟨caps,hcaps,hxv⟩:=dx
 rcases bf_or e3 with ⟨hb,e3⟩ | ⟨hb,e3⟩
 ·have hb:=ble_ok hb
  have hB:BND=16777216:=rfl
  obtain ⟨k,rfl⟩:∃ k,f=BND + k:=⟨f - BND,by omega⟩
  rcases gN_ok e3 (by simp) with ⟨_,e4⟩ | ⟨y,r,hyr,e4⟩
  ·cases e4
  subst hyr
  have hsub:Nat.sub (BND + k) BND=k:=Nat.add_sub_cancel_left BND k
  obtain ⟨u0,us,rfl,hd0,hd1⟩:=denC_cons.1 hcaps
  rcases bf_or e4 with ⟨hy2,e5⟩ | ⟨hy2,e5⟩
  ·have hge:=ble_ok hy2
   rcases gN_ok e5 (by simp) with ⟨hr0,e6⟩ | ⟨_,_,_,e6⟩
   case inr=>cases e6
   subst hr0
   have hus:=denC_nil.1 hd1
   subst hus
   rw [hsub] at e6
   obtain ⟨hab,_,hrd⟩:=hcl k _ fl h n v h' n' e6 hgf hf
   refine ⟨hab,fun hfr K Q hK=>?_⟩
   obtain ⟨B,args,hvs,rec,hB1,hB2,hB3⟩:=hrd (by omega) m w (u0::c.args.toList.map a.eval) s F.glob (denC_cons.2 ⟨_,_,rfl,hd0,evL_ok F _ hu⟩) hfr
   simp only [List.cons.injEq] at hvs
   obtain ⟨rfl,rfl⟩:=hvs
   obtain ⟨key,hkey⟩:∃ key,BND + k=33554432 + key:=⟨BND + k - 33554432,by omega⟩
   rw [hkey,fnV_yield] at hxv
   refine op_round (l:=B) (R:=fun u w'=>∃ m',Tr P ρ g fl h n m w h' n' m' w'∧den ρ m' v u) ?_ (hB3.mono fun e w' ⟨u,m',h1,h2,h3⟩=>⟨u,h1,m',h2,h3⟩) (fun u w' ⟨m',h2,h3⟩=>hK u w' m' h2 h3)
   have hargs:(c.args.toList.map a.eval).toArray=c.args.map a.eval:=by apply Array.ext'; simp
   have hy:=run_yield (P:=P) (args:=c.args.map a.eval) hB1 (by simpa using hB2)
   rw [hargs]
   simp [execOp,ho,resolve,hc,hxv,Deferred.ofValue,invoke,hy]
  ·have hlt2:k < BND:=by
    rcases Nat.lt_or_ge (BND + k) 33554432 with q | q
    ·omega
    ·rw [Nat.ble_eq_true_of_le q] at hy2; cases hy2
   rw [fnV_bound hlt2] at hxv
   obtain ⟨hu2,e6⟩:=nU_ok e5 (by simp)
   rw [hsub] at e6
   obtain ⟨hab,hc1,_⟩:=hcl k _ fl h n v h' n' e6 hgf hf
   obtain ⟨hk,hcall⟩:=hc1 hlt2
   refine ⟨hab,fun hfr K Q hK=>?_⟩
   have hC:=hcall m w (u0::(c.args.toList.map a.eval ++ us)) s F.glob (denC_cons.2 ⟨_,_,rfl,hd0,chApp_ok hd1 _ hu2 (evL_ok F _ hu)⟩) hfr
   refine op_call (f:=k) (args:=(u0::(c.args.toList.map a.eval ++ us)).toArray) (R:=fun u w'=>∃ m',Tr P ρ g fl h n m w h' n' m' w'∧den ρ m' v u) ?_ (hC.mono fun e w' ⟨u,m',h1,h2,h3⟩=>⟨u,h1,m',h2,h3⟩) (fun u w' ⟨m',h2,h3⟩=>hK u w' m' h2 h3)
   have hargs:#[u0] ++ c.args.map a.eval ++ us.toArray=(u0::(c.args.toList.map a.eval ++ us)).toArray:=by apply Array.ext'; simp
   simp [execOp,ho,resolve,hc,hxv,Deferred.ofValue,invoke,known_run hk]
 ·have hlt:f < BND:=by
   rcases Nat.lt_or_ge f BND with q | q
   ·exact q
   ·rw [Nat.ble_eq_true_of_le q] at hb; cases hb
  rw [fnV_lt hlt] at hxv
  obtain ⟨hu2,e4⟩:=nU_ok e3 (by simp)
  obtain ⟨hab,hc1,_⟩:=hcl f _ fl h n v h' n' e4 hgf hf
  obtain ⟨hk,hcall⟩:=hc1 hlt
  refine ⟨hab,fun hfr K Q hK=>?_⟩
  have hC:=hcall m w (c.args.toList.map a.eval ++ caps) s F.glob (chApp_ok hcaps _ hu2 (evL_ok F _ hu)) hfr
  refine op_call (f:=f) (args:=(c.args.toList.map a.eval ++ caps).toArray) (R:=fun u w'=>∃ m',Tr P ρ g fl h n m w h' n' m' w'∧den ρ m' v u) ?_ (hC.mono fun e w' ⟨u,m',h1,h2,h3⟩=>⟨u,h1,m',h2,h3⟩) (fun u w' ⟨m',h2,h3⟩=>hK u w' m' h2 h3)
  have hargs:c.args.map a.eval ++ caps.toArray=(c.args.toList.map a.eval ++ caps).toArray:=by apply Array.ext'; simp
  simp [execOp,ho,resolve,hc,hxv,Deferred.ofValue,invoke,known_run hk]
end
end Go.Rn
