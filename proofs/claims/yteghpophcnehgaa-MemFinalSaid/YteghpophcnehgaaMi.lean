/-
  What the functions that the law reaches do, one by one: contracts. Conditions: those that each of them prints.
-/
import Derived.Test.YteghpophcnehgaaMh
import Derived.Maps.AppendAt
import Derived.Deep.RegionLaw
import Derived.Deep.Upon
import Derived.Lib.OwnKind
import Derived.Orders
import Derived.WalkKit
namespace Go.Proofs.Yteghpophcnehgaa
open Go.RowKit ExprA SndA
section
variable {P:Program} {w:World}
theorem append_gen (base:Nat) (t ty e:TypeId) (i:TypeInfo) (z:Value) (size bytes:Nat) (ht:P.underlying t=some (.slice e)) (hi:P.info? e=some i) (hz:i.zero=some z)
  (hsize:i.size=size) (hby:i.bytes=bytes) (hzs:z.cells.size=size) (hs0:0 < size)
  (v:Value) (n:Nat) (xs:List Value) (hown:w.ownsRow base e size v n xs)
  (a:Option Addr) (m c:Nat) (news:List Value) (hl:news.length=m * size) (hnews:m=0 ∨ ∃ ad,a=some ad∧∀ j u,news[j]?=some u→w.cell? (ad.add j)=some u) (h1:∀ u ∈ news,u.oneCell'=true)
  (h63:n + m≤maxLen) (hbytes:(n + m) * bytes≤140737488355328) (hbase:base≤w.heap.size) :
  ∃ v' w',(Builtin.append_ #[t,t] ty #[v,.slice a m c]).run P w=.ok v' w'∧w'.ownsRow base e size v' (n + m) (xs ++ news)∧w.grownBy w' v.ownBlock∧(v'.ownBlock=v.ownBlock ∨ v'.ownBlock=some w.heap.size):=by
 cases a with
 | some ad=>
  have hn:∀ j u,news[j]?=some u→w.cell? (ad.add j)=some u:=by
   rcases hnews with h | ⟨ad',h,g⟩
   ·subst h
    obtain rfl:=List.eq_nil_of_length_eq_zero (by simpa using hl)
    intro j u hj
    simp at hj
   ·cases h
    exact g
  obtain ⟨v',w',h2,h3,h4,_,h5⟩:=run_append_own_at (P:=P) w base t ty e i z size bytes ht hi hz hsize hby hzs hs0 v n xs hown ad m c news hl hn h1 h63 hbytes hbase
  exact ⟨v',w',h2,h3,h4,h5⟩
 | none=>
  have hm:m=0:=by
   rcases hnews with h | ⟨ad,h,_⟩
   ·exact h
   ·cases h
  subst hm
  obtain rfl:=List.eq_nil_of_length_eq_zero (by simpa using hl)
  have hs:Src P i.size t (.slice none 0 c) 0 [] w:=Src.ofNil w ht c
  obtain ⟨b0,l0,c0,rfl,hle⟩:∃ b0 l0 c0,v=.slice b0 l0 c0∧l0≤c0:=by
   rcases hown.2 with ⟨h,_⟩ | ⟨g,cap,cur,h,_,_,h2,_⟩
   ·exact ⟨_,_,_,h,Nat.le_refl _⟩
   ·exact ⟨_,_,_,h,h2⟩
  have hr:=run_append_nothing w t t ty e i ht hi b0 l0 c0 hle (.slice none 0 c) hs
  refine ⟨_,w,hr,?_,⟨rfl,rfl,rfl,Nat.le_refl _,fun _ _ _=>rfl⟩,.inl rfl⟩
  rw [Nat.add_zero,List.append_nil]
  exact hown
end
section
variable {P:Program} {ops:Array Oper} {Q:Exit→Act→World→Prop} {md:Region.Mode}
theorem wpAny_inv {I:Nat→Array Bool→Act→World→Prop} {f:Nat}
  (hs:∀ k L a w,I (k + 1) L a w→Region.ready md ops L ≠ []∧∀ i ∈ Region.ready md ops L,wpOp P ops Q i (fun a' w'=>I k (L.setIfInBounds i true) a' w') a w)
  (hd:∀ L a w,I 0 L a w→wpAny P md ops Q f L a w):∀ k L a w,I k L a w→wpAny P md ops Q (f + k) L a w
 | 0=>hd
 | k + 1=>fun L a w h=>⟨fun h0=>absurd h0 (hs k L a w h).1,fun i hi=>wpOp_mono (fun a' w' h'=>wpAny_inv hs hd k _ a' w' h') ((hs k L a w h).2 i hi)⟩
theorem wpOp_one {i:Nat} {o:Oper} {a:Act} {w:World} {K:Act→World→Prop} (hi:ops[i]?=some o) (hg:o.guard=none) (h:Oper.wp P o a w K Q):wpOp P ops Q i K a w:=by
 unfold wpOp
 have hw:Region.wanted o (yielded ops a.tmps)=true:=by simp [Region.wanted,hg]
 simp only [hi,hw,if_true]
 exact .inl h
theorem appOp {o:Oper} {a:Act} {w w':World} {v v' x:Value} {K:Act→World→Prop} (s y:Operand) (t:TypeId)
  (ho:o.op=.call { callee:=.builtin .append,args:=#[s,y],argTypes:=#[t,t] }) (hs:a.eval s=v) (hx:a.eval y=x)
  (hr:(Builtin.append_ #[t,t] o.type #[v,x]).run P w=.ok v' w') (h:K (a.put o.dst v') w'):Oper.wp P o a w K Q:=by
 unfold Oper.wp execOp
 simp only [ho,resolve,invoke,builtin,Sem.run_bind,Sem.run_pure,Result.andThen_ok,List.map_toArray,List.map_cons,List.map_nil,hs,hx,hr]
 exact h
end
namespace SndA
theorem nints_one (l:List Int):∀ u ∈ nints l,u.oneCell'=true:=by
 intro u hu
 obtain ⟨x,_,rfl⟩:=List.mem_map.1 hu
 rfl
theorem own_lower {w:World} {base base' e size n:Nat} {v:Value} {xs:List Value} (h:w.ownsRow base e size v n xs) (hb:base'≤base):w.ownsRow base' e size v n xs:=by
 refine ⟨h.1,?_⟩
 rcases h.2 with a | ⟨g,cap,cur,a1,a2,a3⟩
 ·exact .inl a
 ·exact .inr ⟨g,cap,cur,a1,Nat.le_trans hb a2,a3⟩
theorem blk_lt {W:World} {b:Nat} {o:Obj} (h:W.heap[b]?=some o):b < W.heap.size:=by
 rcases Nat.lt_or_ge b W.heap.size with r | r
 ·exact r
 ·rw [Array.getElem?_eq_none r] at h; cases h
structure MI (w0 W:World) (e size:Nat) (v:Value) (n:Nat) (xs:List Value) (S:List (Nat × Obj)):Prop where
 own:W.ownsRow w0.heap.size e size v n xs
 src:∀ x ∈ S,W.heap[x.1]?=some x.2∧w0.heap.size≤x.1∧v.ownBlock ≠ some x.1
 bel:Below w0.heap.size w0 W
section
variable {w0 W W':World} {e size n:Nat} {v:Value} {xs:List Value} {S:List (Nat × Obj)}
theorem MI.nil (w:World) (e size:Nat):MI w w e size (.slice none 0 0) 0 [] []:=⟨World.ownsRow_nil _ _ _ _,fun _ hx=>absurd hx (List.not_mem_nil),Below.refl _ _⟩
theorem MI.alloc (h:MI w0 W e size v n xs S) (o:Obj):MI w0 (W.alloc o) e size v n xs ((W.heap.size,o)::S):=by
 have hold:∀ b,b < W.heap.size→(W.alloc o).heap[b]?=W.heap[b]?:=fun b hb=>alloc_old _ _ _ hb
 refine ⟨h.own.alloc o,fun x hx=>?_,h.bel.alloc h.bel.size o⟩
 rcases List.mem_cons.1 hx with rfl | hx
 ·exact ⟨heap_alloc_new _ _,h.bel.size,fun q=>by have:=(h.own.lt _ q).2; omega⟩
 ·obtain ⟨a,b⟩:=h.src x hx
  exact ⟨by rw [hold x.1 (blk_lt a)]; exact a,b⟩
theorem MI.drew (h:MI w0 W e size v n xs S):MI w0 W.drew e size v n xs S:=⟨h.own.drew,h.src,h.bel.trans ((bel_drewN W 1).mono h.bel.size)⟩
theorem MI.grow {v':Value} {n':Nat} {xs':List Value} (h:MI w0 W e size v n xs S) (hg:W.grownBy W' v.ownBlock) (ho:W'.ownsRow w0.heap.size e size v' n' xs') (hv:v'.ownBlock=v.ownBlock ∨ v'.ownBlock=some W.heap.size):MI w0 W' e size v' n' xs' S:=by
 refine ⟨ho,fun x hx=>?_,h.bel.grown hg h.bel.size (fun j hj=>(h.own.lt j hj).1)⟩
 obtain ⟨a,b,c⟩:=h.src x hx
 refine ⟨by rw [hg.block x.1 (blk_lt a) (fun q=>c q.symm)]; exact a,b,?_⟩
 rcases hv with q | q
 ·rw [q]; exact c
 ·rw [q]; intro r; have:=blk_lt a; simp only [Option.some.injEq] at r; omega
theorem infoInt:(Try.prog.info? 3).map (fun i=>(i.zero,i.size,i.bytes))=some (some (.int .i64 0),1,8):=by kernel_rfl
theorem infoPair:(Try.prog.info? 123).map (fun i=>(i.zero,i.size,i.bytes))=some (some (.agg #[.int .i64 0,.int .i64 0]),2,16):=by kernel_rfl
theorem MI.app {t e0:TypeId} {z:Value} {bytes:Nat} (h:MI w0 W e0 size v n xs S) (ht:Try.prog.underlying t=some (.slice e0)) (hi0:(Try.prog.info? e0).map (fun i=>(i.zero,i.size,i.bytes))=some (some z,size,bytes)) (hzs:z.cells.size=size) (hs0:0 < size) (hb:bytes≤48)
  (ty:TypeId) (a:Option Addr) (m c:Nat) (news:List Value) (hl:news.length=m * size) (hnews:m=0 ∨ ∃ ad,a=some ad∧∀ j u,news[j]?=some u→W.cell? (ad.add j)=some u) (h1:∀ u ∈ news,u.oneCell'=true) (hn:n + m≤100000) :
  ∃ v' W',(Builtin.append_ #[t,t] ty #[v,.slice a m c]).run Try.prog W=.ok v' W'∧MI w0 W' e0 size v' (n + m) (xs ++ news) S:=by
 obtain ⟨i,hi,z1,z2,z3⟩:=info_parts hi0
 have hbb:(n + m) * bytes≤100000 * 48:=Nat.mul_le_mul hn hb
 obtain ⟨v',W',r,o,g,e⟩:=append_gen (P:=Try.prog) (w:=W) w0.heap.size t ty e0 i z size bytes ht hi z1 z2 z3 hzs hs0 v n xs h.own a m c news hl hnews h1 (by unfold maxLen; omega) (by omega) h.bel.size
 exact ⟨v',W',r,h.grow g o e⟩
end
def LV (w:World) (v:Value) (L:List Int):Prop:=w.ownsRow 0 3 1 v L.length (nints L)
theorem LV.next {w w':World} {v:Value} {L:List Int} (h:LV w v L) (hb:Below w.heap.size w w'):LV w' v L:=own_below h hb
theorem LV.nil (w:World):LV w (.slice none 0 0) []:=World.ownsRow_nil _ _ _ _
theorem LV.form {w:World} {v:Value} {L:List Int} (h:LV w v L):(v=.slice none 0 0∧L=[]) ∨ ∃ g c,v=.slice (some ⟨g,0,none⟩) L.length c∧g < w.heap.size∧L.length≤c∧c≤maxLen∧∀ i,i < L.length→w.cell? ⟨g,i,none⟩=some (.int .i64 (L.getD i 0)):=by
 have hc:=fun g hg=>World.ownsRow.cells h (g:=g) hg
 have hl:=World.ownsRow.lt h
 rcases h.2 with ⟨h1,h2⟩ | ⟨g,cap,cur,rfl,_,_,hle,hmx,_⟩
 ·exact .inl ⟨h1,List.eq_nil_of_length_eq_zero h2⟩
 ·refine .inr ⟨g,cap,rfl,(hl g rfl).2,hle,hmx,fun i hi=>?_⟩
  have:=hc g rfl i (.int .i64 (L.getD i 0)) (by simp [nints,List.getD_eq_getElem?_getD,List.getElem?_eq_getElem hi])
  have e:(⟨g,0,none⟩:Addr).add i=⟨g,i,none⟩:=by unfold Addr.add; simp; intro q; exact q.symm
  rw [e] at this; exact this
theorem LV.of_own {w0 w:World} {v:Value} {n:Nat} {L:List Int} (h:w.ownsRow w0.heap.size 3 1 v n (nints L)) (hn:n=L.length):LV w v L:=by subst hn; exact own_lower h (Nat.zero_le _)
end SndA
end Go.Proofs.Yteghpophcnehgaa
namespace Go.Proofs.Yteghpophcnehgaa
open Go.RowKit ExprA SndA
namespace SndA
def Rise (L:List Int):Prop:=L.Pairwise (· < ·)
structure PutOk (L:List Int) (v:Int) (L':List Int):Prop where
 up:Rise L→Rise L'
 mem:∀ x ∈ L',x=v ∨ x ∈ L
 all:v ∈ L'∧∀ x ∈ L,x ∈ L'
 len:L'.length≤L.length + 1
theorem put_same {L:List Int} {v:Int} {k:Nat} (hk:k < L.length) (h:L.getD k 0=v):PutOk L v L:=
 ⟨id,fun _ h=>.inr h,⟨by rw [← h,List.getD_eq_getElem?_getD,List.getElem?_eq_getElem hk]; exact List.getElem_mem _,fun _ h=>h⟩,Nat.le_succ _⟩
theorem put_in {L:List Int} {v:Int} {k:Nat} (h1:∀ j,j < k→L.getD j 0 < v) (hk:k≤L.length) (h3:k < L.length→v < L.getD k 0):PutOk L v (L.take k ++ [v] ++ L.drop k):=by
 have ht:∀ x ∈ L.take k,x < v:=fun x hx=>by
  obtain ⟨j,hj,rfl⟩:=List.mem_iff_getElem.1 hx
  have hj2:j < k:=by simp at hj; omega
  have:=h1 j hj2
  rw [List.getElem_take]
  rwa [List.getD_eq_getElem?_getD,List.getElem?_eq_getElem (by omega)] at this
 refine ⟨fun hr=>?_,fun x hx=>?_,⟨by simp,fun x hx=>?_⟩,by simp; omega⟩
 ·have hd:∀ x ∈ L.drop k,v < x:=fun x hx=>by
   obtain ⟨j,hj,rfl⟩:=List.mem_iff_getElem.1 hx
   have hj2:k + j < L.length:=by simp at hj; omega
   rw [List.getElem_drop]
   have h0:=h3 (by omega)
   rw [List.getD_eq_getElem?_getD,List.getElem?_eq_getElem (by omega)] at h0
   rcases Nat.eq_zero_or_pos j with c | c
   ·subst c; simpa using h0
   ·have:=List.pairwise_iff_getElem.1 hr k (k + j) (by omega) hj2 (by omega)
    simp only [Option.getD_some] at h0
    omega
  refine List.pairwise_append.2 ⟨List.pairwise_append.2 ⟨List.Pairwise.sublist (List.take_sublist k L) hr,List.pairwise_singleton _ _,fun a ha b hb=>?_⟩,List.Pairwise.sublist (List.drop_sublist k L) hr,fun a ha b hb=>?_⟩
  ·rw [List.mem_singleton] at hb; subst hb; exact ht a ha
  ·rcases List.mem_append.1 ha with q | q
   ·exact Int.lt_trans (ht a q) (hd b hb)
   ·rw [List.mem_singleton] at q; subst q; exact hd b hb
 ·rcases List.mem_append.1 hx with q | q
  ·rcases List.mem_append.1 q with r | r
   ·exact .inr (List.mem_of_mem_take r)
   ·exact .inl (by simpa using r)
  ·exact .inr (List.mem_of_mem_drop q)
 ·rw [← List.take_append_drop k L] at hx
  rcases List.mem_append.1 hx with q | q
  ·simp [q]
  ·simp [q]
def NewV (w:World) (v0 v':Value):Prop:=v'=v0 ∨ ∀ b,v'.ownBlock=some b→w.heap.size≤b
theorem NewV.step {w w1:World} {v0 v1 v2:Value} (h:NewV w v0 v1) (g:NewV w1 v1 v2) (hb:w.heap.size≤w1.heap.size):NewV w v0 v2:=by
 rcases g with q | q
 ·rw [q]; exact h
 ·exact .inr fun b r=>Nat.le_trans hb (q b r)
def GivesN (w:World) (v0:Value) (w':World) (e:Ending) (P:List Int→Prop):Prop:=∃ v' L',e=.returned v'∧LV w' v' L'∧P L'∧NewV w v0 v'
def GivesL (w':World) (e:Ending) (P:List Int→Prop):Prop:=∃ v' L',e=.returned v'∧LV w' v' L'∧P L'
theorem ins_row (A B:List Int) (x:Int):[] ++ nints A ++ [.int .i64 x] ++ nints B=nints (A ++ [x] ++ B):=by simp [nints]
theorem nints_app (L M:List Int):nints (L ++ M)=nints L ++ nints M:=by simp [nints]
theorem news_cells {w:World} {g o:Nat} {M:List Int} (h:∀ i,i < M.length→w.cell? ⟨g,o + i,none⟩=some (.int .i64 (M.getD i 0))):∀ j u,(nints M)[j]?=some u→w.cell? ((⟨g,o,none⟩:Addr).add j)=some u:=by
 intro j u hj
 have e:(⟨g,o,none⟩:Addr).add j=⟨g,o + j,none⟩:=by unfold Addr.add; simp
 have hl:j < M.length:=by
  rcases Nat.lt_or_ge j M.length with r | r
  ·exact r
  ·rw [List.getElem?_eq_none (by simpa [nints] using r)] at hj; cases hj
 rw [e,h j hl]
 simp [nints,List.getElem?_eq_getElem hl] at hj
 simp [List.getD_eq_getElem?_getD,List.getElem?_eq_getElem hl,hj]
theorem into_src {w0 W:World} {e size n:Nat} {v:Value} {xs:List Value} {S:List (Nat × Obj)} (h:MI w0 W e size v n xs S) {x:Nat} {cs:Array Value} {t:TypeId} {fr:Nat × Nat} (hx:(x,Obj.cells cs t fr) ∈ S):∀ j u,cs.toList[j]?=some u→W.cell? ((⟨x,0,none⟩:Addr).add j)=some u:=World.news_of_block (h.src _ hx).1
end SndA
set_option maxRecDepth 20000 in
set_option maxHeartbeats 4000000 in
theorem putreg_l (w:World) (v p1 p2:Value) (a1 a2:Option Addr) (c1 c2 k:Nat) (x:Int) (L:List Int) (hk:k≤L.length) (hL:L.length≤1000) (e1:p1=.slice a1 k c1) (e2:p2=.slice a2 (L.length - k) c2)
  (hn1:k=0 ∨ ∃ ad,a1=some ad∧∀ W,Below w.heap.size w W→∀ j u,(nints (L.take k))[j]?=some u→W.cell? (ad.add j)=some u)
  (hn2:L.length - k=0 ∨ ∃ ad,a2=some ad∧∀ W,Below w.heap.size w W→∀ j u,(nints (L.drop k))[j]?=some u→W.cell? (ad.add j)=some u)
  (z2 z3 z4 z6 z7 z8 z9 z10 z11 z12 z13 z14 z15 z16 z17 z18 z19 z20 z21 z22 z23 z24 z25 z26 z27 z28 z29 z30 z31 z32 z33 z34 z35 z36 z37 z38 z39 z40 z41 z42 z43:Value) (Q:Exit→Act→World→Prop)
  (hQp:∀ c (a:Act) (d:Tmp) v w,Q (.panic c) (a.put (some d) v) w→Q (.panic c) a w)
  (h1:∀ (a:Act) (w':World),a.tmps[33]?.getD undef=v→a.tmps[34]?.getD undef=.int .i64 (k:Int)→(execOp a.eval { dst:=some 35,op:=Op.slice 22 (Operand.tmp 33) none (some (Operand.tmp 34)) none,type:=22,pos := "ref.go:43", after:=#[{ on:=0,ground:=Ground.data },{ on:=1,ground:=Ground.data }],guard:=none }).run Try.prog w'=.ok (.value p1) w')
  (h2:∀ (a:Act) (w':World),a.tmps[40]?.getD undef=v→a.tmps[41]?.getD undef=.int .i64 (k:Int)→(execOp a.eval { dst:=some 42,op:=Op.slice 22 (Operand.tmp 40) (some (Operand.tmp 41)) none none,type:=22,pos := "ref.go:43", after:=#[{ on:=7,ground:=Ground.data },{ on:=8,ground:=Ground.data }],guard:=none }).run Try.prog w'=.ok (.value p2) w')
  (hQ:∀ (y33 y34 y35 y36 y37 y38 y39 y40 y41 y42 y43 v4:Value) (W':World),LV W' v4 (L.take k ++ [x] ++ L.drop k)→(∀ b,v4.ownBlock=some b→w.heap.size≤b)→Below w.heap.size w W'→Q .normal { tmps:=(v::.int .i64 x::z2::z3::v4::.int .i64 (k:Int)::z6::z7::z8::z9::z10::z11::z12::z13::z14::z15::z16::z17::z18::z19::z20::z21::z22::z23::z24::z25::z26::z27::z28::z29::z30::z31::z32::y33::y34::y35::y36::y37::y38::y39::y40::y41::y42::y43::[]).toArray,defers:=[] } W') :
  Code.wp Try.prog (Code.region 6 #[{ dst:=some 33,op:=Op.move (Operand.tmp 0),type:=22,pos := "ref.go:43", after:=#[],guard:=none },{ dst:=some 34,op:=Op.move (Operand.tmp 5),type:=3,pos := "ref.go:43", after:=#[],guard:=none },{ dst:=some 35,op:=Op.slice 22 (Operand.tmp 33) none (some (Operand.tmp 34)) none,type:=22,pos := "ref.go:43", after:=#[{ on:=0,ground:=Ground.data },{ on:=1,ground:=Ground.data }],guard:=none },{ dst:=some 36,op:=Op.call { callee:=Callee.builtin Builtin.append,args:=#[Operand.const (Value.slice none 0 0),Operand.tmp 35],argTypes:=#[22,22] },type:=22,pos := "ref.go:43", after:=#[{ on:=2,ground:=Ground.data }],guard:=none },{ dst:=some 37,op:=Op.move (Operand.tmp 1),type:=3,pos := "ref.go:43", after:=#[],guard:=none },{ dst:=some 38,op:=Op.buildSlice 22 1 #[(0,Operand.tmp 37)],type:=22,pos := "ref.go:43", after:=#[{ on:=4,ground:=Ground.data }],guard:=none },{ dst:=some 39,op:=Op.call { callee:=Callee.builtin Builtin.append,args:=#[Operand.tmp 36,Operand.tmp 38],argTypes:=#[22,22] },type:=22,pos := "ref.go:43", after:=#[{ on:=3,ground:=Ground.data },{ on:=5,ground:=Ground.data },{ on:=3,ground:=Ground.chain }],guard:=none },{ dst:=some 40,op:=Op.move (Operand.tmp 0),type:=22,pos := "ref.go:43", after:=#[],guard:=none },{ dst:=some 41,op:=Op.move (Operand.tmp 5),type:=3,pos := "ref.go:43", after:=#[],guard:=none },{ dst:=some 42,op:=Op.slice 22 (Operand.tmp 40) (some (Operand.tmp 41)) none none,type:=22,pos := "ref.go:43", after:=#[{ on:=7,ground:=Ground.data },{ on:=8,ground:=Ground.data }],guard:=none },{ dst:=some 43,op:=Op.call { callee:=Callee.builtin Builtin.append,args:=#[Operand.tmp 39,Operand.tmp 42],argTypes:=#[22,22] },type:=22,pos := "ref.go:43", after:=#[{ on:=6,ground:=Ground.data },{ on:=9,ground:=Ground.data },{ on:=6,ground:=Ground.chain }],guard:=none },{ dst:=some 4,op:=Op.assign (Operand.tmp 43),type:=22,pos := "ref.go:43", after:=#[{ on:=10,ground:=Ground.data },{ on:=10,ground:=Ground.chain },{ on:=0,ground:=Ground.phase },{ on:=1,ground:=Ground.phase },{ on:=2,ground:=Ground.phase },{ on:=3,ground:=Ground.phase },{ on:=4,ground:=Ground.phase },{ on:=5,ground:=Ground.phase },{ on:=6,ground:=Ground.phase },{ on:=7,ground:=Ground.phase },{ on:=8,ground:=Ground.phase },{ on:=9,ground:=Ground.phase },{ on:=10,ground:=Ground.phase }],guard:=none }] true) Q { tmps:=(v::.int .i64 x::z2::z3::z4::.int .i64 (k:Int)::z6::z7::z8::z9::z10::z11::z12::z13::z14::z15::z16::z17::z18::z19::z20::z21::z22::z23::z24::z25::z26::z27::z28::z29::z30::z31::z32::z33::z34::z35::z36::z37::z38::z39::z40::z41::z42::z43::[]).toArray,defers:=[] } w:=by
 subst e1
 subst e2
 refine wp_region_any (by kernel_rfl) ?_
 have hB:=(MI.nil w 3 1).drew
 change wpAny _ _ _ _ _ _ _ (World.drew _)
 generalize World.drew w=W at hB ⊢
 refine wpAny_take (i:=0) (v:=v) rfl (by kernel_rfl) (by kernel_rfl) (by kernel_rfl) (fun c a w=>hQp c a _ _ w) (Or.inl ⟨by rfl,?_⟩) ?_
 ·intro w
  go_simp
 refine wpAny_take (i:=1) (v:=.int .i64 (k:Int)) rfl (by kernel_rfl) (by kernel_rfl) (by kernel_rfl) (fun c a w=>hQp c a _ _ w) (Or.inl ⟨by rfl,?_⟩) ?_
 ·intro w
  go_simp
 refine wpAny_take (i:=2) (v:=.slice a1 k c1) rfl (by kernel_rfl) (by kernel_rfl) (by kernel_rfl) (fun c a w=>hQp c a _ _ w) (Or.inl ⟨by rfl,?_⟩) ?_
 ·intro w
  exact h1 _ w (by kernel_rfl) (by kernel_rfl)
 refine wpAny_take (i:=4) (v:=.int .i64 x) rfl (by kernel_rfl) (by kernel_rfl) (by kernel_rfl) (fun c a w=>hQp c a _ _ w) (Or.inl ⟨by rfl,?_⟩) ?_
 ·intro w
  go_simp
 refine wpAny_take (i:=7) (v:=v) rfl (by kernel_rfl) (by kernel_rfl) (by kernel_rfl) (fun c a w=>hQp c a _ _ w) (Or.inl ⟨by rfl,?_⟩) ?_
 ·intro w
  go_simp
 refine wpAny_take (i:=8) (v:=.int .i64 (k:Int)) rfl (by kernel_rfl) (by kernel_rfl) (by kernel_rfl) (fun c a w=>hQp c a _ _ w) (Or.inl ⟨by rfl,?_⟩) ?_
 ·intro w
  go_simp
 refine wpAny_take (i:=9) (v:=.slice a2 (L.length - k) c2) rfl (by kernel_rfl) (by kernel_rfl) (by kernel_rfl) (fun c a w=>hQp c a _ _ w) (Or.inl ⟨by rfl,?_⟩) ?_
 ·intro w
  exact h2 _ w (by kernel_rfl) (by kernel_rfl)
 show wpAny _ _ _ _ 5 _ _ _
 refine wpAny_all (rs:=[3,5]) (by kernel_rfl) (by simp) ?_
 intro i hi
 simp only [List.mem_cons,List.not_mem_nil,or_false] at hi
 rcases hi with rfl | rfl
 ·obtain ⟨v3,W3,hr3,hB3⟩:=hB.app (t:=22) (e0:=3) (z:=.int .i64 0) (bytes:=8) Try.underlying22 infoInt rfl (by omega) (by omega) 22 a1 k c1 (nints (L.take k)) (by simp [nints]; omega) (by rcases hn1 with q | ⟨ad,q,r⟩; exact .inl q; exact .inr ⟨ad,q,r _ hB.bel⟩) (nints_one _) (by omega)
  clear hB
  have hB:=hB3
  clear hB3
  refine wpOp_one (o:={ dst:=some 36,op:=Op.call { callee:=Callee.builtin Builtin.append,args:=#[Operand.const (Value.slice none 0 0),Operand.tmp 35],argTypes:=#[22,22] },type:=22,pos := "ref.go:43", after:=#[{ on:=2,ground:=Ground.data }],guard:=none }) (by rfl) rfl ?_
  refine appOp (Operand.const (Value.slice none 0 0)) (Operand.tmp 35) 22 rfl (by kernel_rfl) (by kernel_rfl) hr3 ?_
  refine wpAny_all (rs:=[5]) (by kernel_rfl) (by simp) ?_
  intro i hi
  simp only [List.mem_singleton] at hi
  subst hi
  have hB5:=hB.alloc (Obj.cells ([.int .i64 x]:List Value).toArray 3 (0,0))
  clear hB
  have hB:=hB5
  clear hB5
  refine wpOp_one (o:={ dst:=some 38,op:=Op.buildSlice 22 1 #[(0,Operand.tmp 37)],type:=22,pos := "ref.go:43", after:=#[{ on:=4,ground:=Ground.data }],guard:=none }) (by rfl) rfl ?_
  unfold Oper.wp
  go_simp
  refine wpAny_all (rs:=[6]) (by kernel_rfl) (by simp) ?_
  intro i hi
  simp only [List.mem_singleton] at hi
  subst hi
  obtain ⟨v6,W6,hr6,hB6⟩:=hB.app (t:=22) (e0:=3) (z:=.int .i64 0) (bytes:=8) Try.underlying22 infoInt rfl (by omega) (by omega) 22 (some ⟨W3.heap.size,0,none⟩) 1 1 [.int .i64 x] rfl (.inr ⟨_,rfl,into_src hB (List.mem_cons_self ..)⟩) (by intro u hu; simp at hu; subst hu; rfl) (by omega)
  clear hB
  have hB:=hB6
  clear hB6
  refine wpOp_one (o:={ dst:=some 39,op:=Op.call { callee:=Callee.builtin Builtin.append,args:=#[Operand.tmp 36,Operand.tmp 38],argTypes:=#[22,22] },type:=22,pos := "ref.go:43", after:=#[{ on:=3,ground:=Ground.data },{ on:=5,ground:=Ground.data },{ on:=3,ground:=Ground.chain }],guard:=none }) (by rfl) rfl ?_
  refine appOp (Operand.tmp 36) (Operand.tmp 38) 22 rfl (by kernel_rfl) (by kernel_rfl) hr6 ?_
  refine wpAny_all (rs:=[10]) (by kernel_rfl) (by simp) ?_
  intro i hi
  simp only [List.mem_singleton] at hi
  subst hi
  obtain ⟨v10,W10,hr10,hB10⟩:=hB.app (t:=22) (e0:=3) (z:=.int .i64 0) (bytes:=8) Try.underlying22 infoInt rfl (by omega) (by omega) 22 a2 (L.length - k) c2 (nints (L.drop k)) (by simp [nints]) (by rcases hn2 with q | ⟨ad,q,r⟩; exact .inl q; exact .inr ⟨ad,q,r _ hB.bel⟩) (nints_one _) (by omega)
  clear hB
  have hB:=hB10
  clear hB10
  refine wpOp_one (o:={ dst:=some 43,op:=Op.call { callee:=Callee.builtin Builtin.append,args:=#[Operand.tmp 39,Operand.tmp 42],argTypes:=#[22,22] },type:=22,pos := "ref.go:43", after:=#[{ on:=6,ground:=Ground.data },{ on:=9,ground:=Ground.data },{ on:=6,ground:=Ground.chain }],guard:=none }) (by rfl) rfl ?_
  refine appOp (Operand.tmp 39) (Operand.tmp 42) 22 rfl (by kernel_rfl) (by kernel_rfl) hr10 ?_
  refine wpAny_all (rs:=[11]) (by kernel_rfl) (by simp) ?_
  intro i hi
  simp only [List.mem_singleton] at hi
  subst hi
  refine wpOp_one (o:={ dst:=some 4,op:=Op.assign (Operand.tmp 43),type:=22,pos := "ref.go:43", after:=#[{ on:=10,ground:=Ground.data },{ on:=10,ground:=Ground.chain },{ on:=0,ground:=Ground.phase },{ on:=1,ground:=Ground.phase },{ on:=2,ground:=Ground.phase },{ on:=3,ground:=Ground.phase },{ on:=4,ground:=Ground.phase },{ on:=5,ground:=Ground.phase },{ on:=6,ground:=Ground.phase },{ on:=7,ground:=Ground.phase },{ on:=8,ground:=Ground.phase },{ on:=9,ground:=Ground.phase },{ on:=10,ground:=Ground.phase }],guard:=none }) (by rfl) rfl ?_
  unfold Oper.wp
  go_simp
  refine wpAny_done (by kernel_rfl) ?_ _
  refine hQ _ _ _ _ _ _ _ _ _ _ _ v10 W10 (LV.of_own (by have:=hB.own; rw [ins_row] at this; exact this) (by simp; omega)) (fun b q=>(hB.own.lt b q).1) hB.bel
 ·have hB5:=hB.alloc (Obj.cells ([.int .i64 x]:List Value).toArray 3 (0,0))
  clear hB
  have hB:=hB5
  clear hB5
  refine wpOp_one (o:={ dst:=some 38,op:=Op.buildSlice 22 1 #[(0,Operand.tmp 37)],type:=22,pos := "ref.go:43", after:=#[{ on:=4,ground:=Ground.data }],guard:=none }) (by rfl) rfl ?_
  unfold Oper.wp
  go_simp
  refine wpAny_all (rs:=[3]) (by kernel_rfl) (by simp) ?_
  intro i hi
  simp only [List.mem_singleton] at hi
  subst hi
  obtain ⟨v3,W3,hr3,hB3⟩:=hB.app (t:=22) (e0:=3) (z:=.int .i64 0) (bytes:=8) Try.underlying22 infoInt rfl (by omega) (by omega) 22 a1 k c1 (nints (L.take k)) (by simp [nints]; omega) (by rcases hn1 with q | ⟨ad,q,r⟩; exact .inl q; exact .inr ⟨ad,q,r _ hB.bel⟩) (nints_one _) (by omega)
  clear hB
  have hB:=hB3
  clear hB3
  refine wpOp_one (o:={ dst:=some 36,op:=Op.call { callee:=Callee.builtin Builtin.append,args:=#[Operand.const (Value.slice none 0 0),Operand.tmp 35],argTypes:=#[22,22] },type:=22,pos := "ref.go:43", after:=#[{ on:=2,ground:=Ground.data }],guard:=none }) (by rfl) rfl ?_
  refine appOp (Operand.const (Value.slice none 0 0)) (Operand.tmp 35) 22 rfl (by kernel_rfl) (by kernel_rfl) hr3 ?_
  refine wpAny_all (rs:=[6]) (by kernel_rfl) (by simp) ?_
  intro i hi
  simp only [List.mem_singleton] at hi
  subst hi
  obtain ⟨v6,W6,hr6,hB6⟩:=hB.app (t:=22) (e0:=3) (z:=.int .i64 0) (bytes:=8) Try.underlying22 infoInt rfl (by omega) (by omega) 22 (some ⟨W.heap.size,0,none⟩) 1 1 [.int .i64 x] rfl (.inr ⟨_,rfl,into_src hB (List.mem_cons_self ..)⟩) (by intro u hu; simp at hu; subst hu; rfl) (by omega)
  clear hB
  have hB:=hB6
  clear hB6
  refine wpOp_one (o:={ dst:=some 39,op:=Op.call { callee:=Callee.builtin Builtin.append,args:=#[Operand.tmp 36,Operand.tmp 38],argTypes:=#[22,22] },type:=22,pos := "ref.go:43", after:=#[{ on:=3,ground:=Ground.data },{ on:=5,ground:=Ground.data },{ on:=3,ground:=Ground.chain }],guard:=none }) (by rfl) rfl ?_
  refine appOp (Operand.tmp 36) (Operand.tmp 38) 22 rfl (by kernel_rfl) (by kernel_rfl) hr6 ?_
  refine wpAny_all (rs:=[10]) (by kernel_rfl) (by simp) ?_
  intro i hi
  simp only [List.mem_singleton] at hi
  subst hi
  obtain ⟨v10,W10,hr10,hB10⟩:=hB.app (t:=22) (e0:=3) (z:=.int .i64 0) (bytes:=8) Try.underlying22 infoInt rfl (by omega) (by omega) 22 a2 (L.length - k) c2 (nints (L.drop k)) (by simp [nints]) (by rcases hn2 with q | ⟨ad,q,r⟩; exact .inl q; exact .inr ⟨ad,q,r _ hB.bel⟩) (nints_one _) (by omega)
  clear hB
  have hB:=hB10
  clear hB10
  refine wpOp_one (o:={ dst:=some 43,op:=Op.call { callee:=Callee.builtin Builtin.append,args:=#[Operand.tmp 39,Operand.tmp 42],argTypes:=#[22,22] },type:=22,pos := "ref.go:43", after:=#[{ on:=6,ground:=Ground.data },{ on:=9,ground:=Ground.data },{ on:=6,ground:=Ground.chain }],guard:=none }) (by rfl) rfl ?_
  refine appOp (Operand.tmp 39) (Operand.tmp 42) 22 rfl (by kernel_rfl) (by kernel_rfl) hr10 ?_
  refine wpAny_all (rs:=[11]) (by kernel_rfl) (by simp) ?_
  intro i hi
  simp only [List.mem_singleton] at hi
  subst hi
  refine wpOp_one (o:={ dst:=some 4,op:=Op.assign (Operand.tmp 43),type:=22,pos := "ref.go:43", after:=#[{ on:=10,ground:=Ground.data },{ on:=10,ground:=Ground.chain },{ on:=0,ground:=Ground.phase },{ on:=1,ground:=Ground.phase },{ on:=2,ground:=Ground.phase },{ on:=3,ground:=Ground.phase },{ on:=4,ground:=Ground.phase },{ on:=5,ground:=Ground.phase },{ on:=6,ground:=Ground.phase },{ on:=7,ground:=Ground.phase },{ on:=8,ground:=Ground.phase },{ on:=9,ground:=Ground.phase },{ on:=10,ground:=Ground.phase }],guard:=none }) (by rfl) rfl ?_
  unfold Oper.wp
  go_simp
  refine wpAny_done (by kernel_rfl) ?_ _
  refine hQ _ _ _ _ _ _ _ _ _ _ _ v10 W10 (LV.of_own (by have:=hB.own; rw [ins_row] at this; exact this) (by simp; omega)) (fun b q=>(hB.own.lt b q).1) hB.bel
end Go.Proofs.Yteghpophcnehgaa
