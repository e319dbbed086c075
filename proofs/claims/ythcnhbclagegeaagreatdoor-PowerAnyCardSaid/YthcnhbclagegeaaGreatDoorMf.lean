/-
  What the functions that the law reaches do, one by one: contracts. Conditions: those that each of them prints.
-/
import Derived.Test.YthcnhbclagegeaaGreatDoorMe
import Derived.BigFrame
import Derived.Deep.RegionWith
set_option maxRecDepth 20000
set_option maxHeartbeats 3200000
namespace Go.Proofs.YthcnhbclagegeaaGreatDoor
open Go.RowKit RelA
section
namespace RelA
theorem Zaa {x:Addr} {v:Value} {w w':World} (h:w.cell? x=some v) (hb:Below w.heap.size w w'):w'.cell? x=some v:=(hb.cell (p:=x) (World.block_lt_of_cell? w x h)).trans h
structure Ev where
 th:Int
 kd:Int
 md:Int
 lc:Int
 vl:Int
 ex:Bool
def Ev.zero:Ev:=⟨0,0,0,0,0,false⟩
structure ECells (w:World) (b o:Nat) (e:Ev):Prop where
 c0:w.cell? ⟨b,o,none⟩=some (.int .i64 e.th)
 c1:w.cell? ⟨b,o+1,none⟩=some (.int .i64 e.kd)
 c2:w.cell? ⟨b,o+2,none⟩=some (.int .i64 e.md)
 c3:w.cell? ⟨b,o+3,none⟩=some (.int .i64 e.lc)
 c4:w.cell? ⟨b,o+4,none⟩=some (.int .i64 e.vl)
 c5:w.cell? ⟨b,o+5,none⟩=some (.bool e.ex)
theorem ECells.next {w w':World} {b o:Nat} {e:Ev} (h:ECells w b o e) (hb:Below w.heap.size w w'):ECells w' b o e:=
 ⟨Zaa h.c0 hb,Zaa h.c1 hb,Zaa h.c2 hb,Zaa h.c3 hb,Zaa h.c4 hb,Zaa h.c5 hb⟩
def EsIn (w:World) (a:Option Addr) (L:List Ev):Prop:=
 L=[]∨∃ b o,a=some ⟨b,o,none⟩/\b<w.heap.size/\∀ q,q<L.length->ECells w b (o+q*6) (L.getD q Ev.zero)
theorem EsIn.next {w w':World} {a:Option Addr} {L:List Ev} (h:EsIn w a L) (hb:Below w.heap.size w w'):EsIn w' a L:=by
 rcases h with h | ⟨b,o,h1,h2,h3⟩
 ·exact .inl h
 ·exact .inr ⟨b,o,h1,Nat.lt_of_lt_of_le h2 hb.size,fun q hq=>(h3 q hq).next hb⟩
def NsIn (w:World) (a:Option Addr) (L:List Int):Prop:=
 L=[]∨∃ b o,a=some ⟨b,o,none⟩/\b<w.heap.size/\∀ q,q<L.length->w.cell? ⟨b,o+q,none⟩=some (.int .i64 (L.getD q 0))
theorem NsIn.next {w w':World} {a:Option Addr} {L:List Int} (h:NsIn w a L) (hb:Below w.heap.size w w'):NsIn w' a L:=by
 rcases h with h | ⟨b,o,h1,h2,h3⟩
 ·exact .inl h
 ·exact .inr ⟨b,o,h1,Nat.lt_of_lt_of_le h2 hb.size,fun q hq=>Zaa (h3 q hq) hb⟩
structure Ls where
 a:Option Addr
 L:List Int
 c:Nat
def Ls.zero:Ls:=⟨none,[],0⟩
def LsIn (w:World) (a:Option Addr) (C:List Ls):Prop:=
 C=[]∨∃ b o,a=some ⟨b,o,none⟩/\b<w.heap.size/\∀ q,q<C.length->w.cell? ⟨b,o+q,none⟩=some (.slice (C.getD q Ls.zero).a (C.getD q Ls.zero).L.length (C.getD q Ls.zero).c)/\NsIn w (C.getD q Ls.zero).a (C.getD q Ls.zero).L/\(C.getD q Ls.zero).L.length<=(C.getD q Ls.zero).c
theorem LsIn.next {w w':World} {a:Option Addr} {C:List Ls} (h:LsIn w a C) (hb:Below w.heap.size w w'):LsIn w' a C:=by
 rcases h with h | ⟨b,o,h1,h2,h3⟩
 ·exact .inl h
 ·exact .inr ⟨b,o,h1,Nat.lt_of_lt_of_le h2 hb.size,fun q hq=>⟨Zaa (h3 q hq).1 hb,(h3 q hq).2.1.next hb,(h3 q hq).2.2⟩⟩
structure Gr where
 locs:Int
 ea:Option Addr
 E:List Ev
 ec:Nat
 ra:Option Addr
 R:List Int
 rc:Nat
 ca:Option Addr
 C:List Ls
 cc:Nat
 ma:Option Addr
 Rmw:List (Int×Int)
 mc:Nat
 da:Option Addr
 Data:List (Int×Int)
 dc:Nat
 ta:Option Addr
 Ctrl:List (Int×Int)
 tc:Nat
 ia:Option Addr
 CtrlI:List (Int×Int)
 ic:Nat
def Gr.v (g:Gr):Value:=.agg #[.int .i64 g.locs,.slice g.ea g.E.length g.ec,.slice g.ra g.R.length g.rc,.slice g.ca g.C.length g.cc,.slice g.ma g.Rmw.length g.mc,.slice g.da g.Data.length g.dc,.slice g.ta g.Ctrl.length g.tc,.slice g.ia g.CtrlI.length g.ic]
structure GIn (w:World) (g:Gr):Prop where
 es:EsIn w g.ea g.E
 rf:NsIn w g.ra g.R
 co:LsIn w g.ca g.C
 rmw:PIn w g.ma g.Rmw g.mc
 data:PIn w g.da g.Data g.dc
 ctrl:PIn w g.ta g.Ctrl g.tc
 ctrli:PIn w g.ia g.CtrlI g.ic
 e40:g.E.length<=40
 ecap:g.E.length<=g.ec
 r60:g.R.length<=60
 c6:g.C.length<=6
 l50:∀ q,q<g.C.length->(g.C.getD q Ls.zero).L.length<=50
 m50:g.Rmw.length<=50
 d300:g.Data.length<=300
 t300:g.Ctrl.length<=300
 i300:g.CtrlI.length<=300
 ccap:g.C.length<=g.cc
theorem GIn.next {w w':World} {g:Gr} (h:GIn w g) (hb:Below w.heap.size w w'):GIn w' g:=
 ⟨h.es.next hb,h.rf.next hb,h.co.next hb,h.rmw.next hb,h.data.next hb,h.ctrl.next hb,h.ctrli.next hb,h.e40,h.ecap,h.r60,h.c6,h.l50,h.m50,h.d300,h.t300,h.i300,h.ccap⟩
def Gr.n (g:Gr):Nat:=g.E.length
structure Rl (w:World) (c n:Nat) (M:Nat->Nat->Bool):Prop where
 at_:∃ R,At w c n R/\(∀ i,R i<2 ^ 40)/\Lk R M
 wf:WFM n M
theorem Rl.next {w w':World} {c n:Nat} {M:Nat->Nat->Bool} (h:Rl w c n M) (hb:Below w.heap.size w w'):Rl w' c n M:=by
 obtain⟨⟨R,h1,h2,h3⟩,h4⟩:=h
 exact⟨⟨R,h1.next hb,h2,h3⟩,h4⟩
structure Rr (w:World) (c n:Nat) (M:Nat->Nat->Bool):Prop where
 at_:RAt w c n M
 wf:WFM n M
theorem Rr.next {w w':World} {c n:Nat} {M:Nat->Nat->Bool} (h:Rr w c n M) (hb:Below w.heap.size w w'):Rr w' c n M:=⟨h.at_.next hb,h.wf⟩
def orM (M S:Nat->Nat->Bool):Nat->Nat->Bool:=fun i j=>M i j||S i j
def Zky (M S:Nat->Nat->Bool):Nat->Nat->Bool:=fun i j=>M i j&&S i j
def Zfe (M S:Nat->Nat->Bool):Nat->Nat->Bool:=fun i j=>M i j&&!S i j
noncomputable def Zax (M S:Nat->Nat->Bool):Nat->Nat->Bool:=fun i j=>@decide (∃ k,M i k=true/\S k j=true) (Classical.propDecidable _)
def Zff (M:Nat->Nat->Bool):Nat->Nat->Bool:=fun i j=>M j i
noncomputable def Zbl (M:Nat->Nat->Bool):Nat->Nat->Bool:=fun i j=>@decide (Zg9 M i j) (Classical.propDecidable _)
def Zco (n:Nat) (M:Nat->Nat->Bool):Nat->Nat->Bool:=fun i j=>(decide (i=j)&&decide (i<n))||M i j
def ofM (n:Nat) (l:List (Int×Int)):Nat->Nat->Bool:=Zic n l
theorem seqM_iff {M S:Nat->Nat->Bool} {i j:Nat}:Zax M S i j=true↔∃ k,M i k=true/\S k j=true:=by unfold Zax;simp
theorem plusM_iff {M:Nat->Nat->Bool} {i j:Nat}:Zbl M i j=true↔Zg9 M i j:=by unfold Zbl;simp
theorem Zd4 {n:Nat} {F:Nat->Nat->Bool} (h:WFM n F):Zdr n F=F:=by
 funext i j
 rw[Bool.eq_iff_iff,Zde]
 exact⟨fun a=>a.2.2,fun a=>⟨(h i j a).1,(h i j a).2,a⟩⟩
theorem Zdy {n:Nat} {M S:Nat->Nat->Bool} (h:WFM n M) (g:WFM n S):WFM n (orM M S):=fun i j a=>by
 unfold orM at a;rw[Bool.or_eq_true] at a
 rcases a with a | a
 ·exact h i j a
 ·exact g i j a
theorem Zk8 {n:Nat} {M S:Nat->Nat->Bool} (h:WFM n M):WFM n (Zky M S):=fun i j a=>by
 unfold Zky at a;rw[Bool.and_eq_true] at a;exact h i j a.1
theorem Zfi {n:Nat} {M S:Nat->Nat->Bool} (h:WFM n M):WFM n (Zfe M S):=fun i j a=>by
 unfold Zfe at a;rw[Bool.and_eq_true] at a;exact h i j a.1
theorem Ze9 {n:Nat} {M S:Nat->Nat->Bool} (h:WFM n M) (g:WFM n S):WFM n (Zax M S):=fun i j a=>by
 obtain⟨k,a,b⟩:=seqM_iff.1 a
 exact⟨(h i k a).1,(g k j b).2⟩
theorem Zrg {n:Nat} {M:Nat->Nat->Bool} (h:WFM n M):WFM n (Zff M):=fun i j a=>⟨(h j i a).2,(h j i a).1⟩
theorem Zrf {n:Nat} {M:Nat->Nat->Bool} (h:WFM n M):WFM n (Zbl M):=fun i j a0=>by
 have a:=plusM_iff.1 a0
 clear a0
 unfold Zg9 at a
 refine⟨?_,?_⟩
 ·induction a with
  | single a=>exact(h _ _ a).1
  | tail _ _ ih=>exact ih
 ·cases a with
  | single a=>exact(h _ _ a).2
  | tail _ a=>exact(h _ _ a).2
theorem Zn7 {n:Nat} {M:Nat->Nat->Bool} (h:WFM n M):WFM n (Zco n M):=Zy6 h
theorem Zrj {n:Nat} {M S:Nat->Nat->Bool} (h:WFM n M) (g:WFM n S):Zph n M S=Zax M S:=by
 funext i j
 rw[Bool.eq_iff_iff,seqM_iff]
 unfold Zph
 rw[Zde,List.any_eq_true]
 constructor
 ·rintro⟨_,_,k,_,a⟩
  have a:=Bool.and_eq_true_iff.1 a
  exact⟨k,a.1,a.2⟩
 ·rintro⟨k,a,b⟩
  exact⟨(h i k a).1,(g k j b).2,k,List.mem_range.2 (h i k a).2,by rw[a,b];rfl⟩
theorem Rl.mk' {w:World} {c n:Nat} {R:Nat->Nat} {M:Nat->Nat->Bool} (h1:At w c n R) (h2:∀ i,R i<2 ^ 40) (h3:Lk R M) (h4:WFM n M):Rl w c n M:=⟨⟨R,h1,h2,h3⟩,h4⟩
end RelA
def Zes (n:Nat) (M:Nat->Nat->Bool) (w:World) (e:Ending) (w':World):Prop:=∃ d,e=.returned (.pointer (some ⟨d,0,none⟩))/\Rl w' d n M/\w.heap.size<=d/\Below w.heap.size w w'
def Zcw (n:Nat) (M:Nat->Nat->Bool) (w:World) (e:Ending) (w':World):Prop:=∃ d,e=.returned (.pointer (some ⟨d,0,none⟩))/\Rr w' d n M/\w.heap.size<=d/\Below w.heap.size w w'
theorem Yxj (b c n:Nat) (M S:Nat->Nat->Bool) (w:World) (h:Rl w b n M) (g:Rl w c n S) :
  Calls Tryz.prog 122 #[.pointer (some ⟨b,0,none⟩),.pointer (some ⟨c,0,none⟩)] w (Zes n (orM M S) w):=by
 obtain⟨⟨R,h1,h2,h3⟩,h4⟩:=h
 obtain⟨⟨T,g1,g2,g3⟩,g4⟩:=g
 refine(Zuu b n c n R T w h1 g1 h2 g2).mono ?_
 rintro e w' ⟨rfl,ha,hb⟩
 rw[Nat.max_self] at ha
 have hl:=Yrg h3 g3 h4 g4
 rw[Nat.max_self,(Zd4 (Zdy h4 g4):Zdr n (fun i j=>M i j||S i j)=orM M S)] at hl
 exact⟨_,rfl,.mk' ha (fun i=>Zv2 (h2 i) (g2 i)) hl (Zdy h4 g4),Nat.le_refl _,hb⟩
theorem Yj8 (b c n:Nat) (M S:Nat->Nat->Bool) (w:World) (h:Rl w b n M) (g:Rl w c n S) :
  Calls Tryz.prog 106 #[.pointer (some ⟨b,0,none⟩),.pointer (some ⟨c,0,none⟩)] w (Zes n (Zky M S) w):=by
 obtain⟨⟨R,h1,h2,h3⟩,h4⟩:=h
 obtain⟨⟨T,g1,g2,g3⟩,g4⟩:=g
 refine(Yhd b n c n R T w h1 g1 h2 g2).mono ?_
 rintro e w' ⟨rfl,ha,hb⟩
 rw[Nat.max_self] at ha
 have hl:=Yk1 (m:=n) h3 g3 h4
 rw[Nat.max_self,(Zd4 (Zk8 (S:=S) h4):Zdr n (fun i j=>M i j&&S i j)=Zky M S)] at hl
 exact⟨_,rfl,.mk' ha (fun i=>Zsr (g2 i)) hl (Zk8 h4),Nat.le_refl _,hb⟩
theorem Yk3 (b c n:Nat) (M S:Nat->Nat->Bool) (w:World) (h:Rl w b n M) (g:Rl w c n S) :
  Calls Tryz.prog 123 #[.pointer (some ⟨b,0,none⟩),.pointer (some ⟨c,0,none⟩)] w (Zes n (Zfe M S) w):=by
 obtain⟨⟨R,h1,h2,h3⟩,h4⟩:=h
 obtain⟨⟨T,g1,g2,g3⟩,g4⟩:=g
 refine(Ybd b n c n R T w h1 g1 h2 g2).mono ?_
 rintro e w' ⟨rfl,ha,hb⟩
 rw[Nat.max_self] at ha
 have hl:=Zv7 (m:=n) h3 g3 h4
 rw[Nat.max_self,(Zd4 (Zfi (S:=S) h4):Zdr n (fun i j=>M i j&&!S i j)=Zfe M S)] at hl
 exact⟨_,rfl,.mk' ha (fun i=>Zre (h2 i) (Zsr (g2 i))) hl (Zfi h4),Nat.le_refl _,hb⟩
theorem Ycq (b c n:Nat) (M S:Nat->Nat->Bool) (w:World) (h:Rl w b n M) (g:Rl w c n S) (ht:Tab w) :
  Calls Tryz.prog 80 #[.pointer (some ⟨b,0,none⟩),.pointer (some ⟨c,0,none⟩)] w (Zes n (Zax M S) w):=by
 obtain⟨⟨R,h1,h2,h3⟩,h4⟩:=h
 obtain⟨⟨T,g1,g2,g3⟩,g4⟩:=g
 refine(Zvl b n c n R T w h1 g1 h2 g2 ht).mono ?_
 rintro e w' ⟨rfl,ha,hb⟩
 rw[Nat.max_self] at ha
 have hl:=Ygf h3 g3 h4 g4 h2 g2
 rw[Nat.max_self,Zrj h4 g4] at hl
 exact⟨_,rfl,.mk' ha (fun i=>Ypa _ _) hl (Ze9 h4 g4),Nat.le_refl _,hb⟩
theorem Ylw (b n:Nat) (M:Nat->Nat->Bool) (w:World) (h:Rl w b n M) (hn:n<=40) (ht:Tab w) :
  Calls Tryz.prog 182 #[.pointer (some ⟨b,0,none⟩)] w (Zes n (Zff M) w):=by
 obtain⟨⟨R,h1,h2,h3⟩,h4⟩:=h
 refine(Yb5 b n R w h1 h2 ht).mono ?_
 rintro e w' ⟨rfl,ha,hb⟩
 have hl:=Ygg h3 h4 hn
 rw[Zd4 h4] at hl
 exact⟨_,rfl,.mk' ha (fun i=>Zh3 _ _) hl (Zrg h4),Nat.le_refl _,hb⟩
theorem Ykw (b n:Nat) (M:Nat->Nat->Bool) (w:World) (h:Rl w b n M) (ht:Tab w) :
  Calls Tryz.prog 66 #[.pointer (some ⟨b,0,none⟩)] w (Zes n (Zbl M) w):=by
 obtain⟨⟨R,h1,h2,h3⟩,h4⟩:=h
 refine(Zrv b n R w h1 h2 ht).mono ?_
 rintro e w' ⟨c,rfl,hcn,ha,hb⟩
 exact⟨_,rfl,.mk' ha (fun i=>Zrw R i) (Zv6 h3 (fun i j=>plusM_iff) h2) (Zrf h4),hcn,hb⟩
theorem Ygb (b n:Nat) (M:Nat->Nat->Bool) (w:World) (h:Rl w b n M) (hn:n<=40) :
  Calls Tryz.prog 174 #[.pointer (some ⟨b,0,none⟩)] w (Zes n (Zco n M) w):=by
 obtain⟨⟨R,h1,h2,h3⟩,h4⟩:=h
 refine(Zxm b n R w h1 hn h2).mono ?_
 rintro e w' ⟨rfl,ha,hb⟩
 refine⟨_,rfl,.mk' ha (fun i=>?_) (Ybb h3) (Zn7 h4),Nat.le_refl _,hb⟩
 show(if i<n then R i|||2 ^ i else R i)<2 ^ 40
 split
 ·exact Zv2 (h2 i) (Nat.pow_lt_pow_right (by decide) (by omega))
 ·exact h2 i
namespace RelA
structure GBox (w:World) (b:Nat) (g:Gr):Prop where
 c0:w.cell? ⟨b,0,none⟩=some (.int .i64 g.locs)
 c1:w.cell? ⟨b,1,none⟩=some (.slice g.ea g.E.length g.ec)
 c2:w.cell? ⟨b,2,none⟩=some (.slice g.ra g.R.length g.rc)
 c3:w.cell? ⟨b,3,none⟩=some (.slice g.ca g.C.length g.cc)
 c4:w.cell? ⟨b,4,none⟩=some (.slice g.ma g.Rmw.length g.mc)
 c5:w.cell? ⟨b,5,none⟩=some (.slice g.da g.Data.length g.dc)
 c6:w.cell? ⟨b,6,none⟩=some (.slice g.ta g.Ctrl.length g.tc)
 c7:w.cell? ⟨b,7,none⟩=some (.slice g.ia g.CtrlI.length g.ic)
theorem GBox.next {w w':World} {b:Nat} {g:Gr} (h:GBox w b g) (hb:Below w.heap.size w w'):GBox w' b g:=
 ⟨Zaa h.c0 hb,Zaa h.c1 hb,Zaa h.c2 hb,Zaa h.c3 hb,Zaa h.c4 hb,Zaa h.c5 hb,Zaa h.c6 hb,Zaa h.c7 hb⟩
def Zaw (g:Gr):Array Value:=#[.int .i64 g.locs,.slice g.ea g.E.length g.ec,.slice g.ra g.R.length g.rc,.slice g.ca g.C.length g.cc,.slice g.ma g.Rmw.length g.mc,.slice g.da g.Data.length g.dc,.slice g.ta g.Ctrl.length g.tc,.slice g.ia g.CtrlI.length g.ic]
theorem GBox.of_alloc (w:World) (g:Gr) (t:TypeId):GBox (w.alloc (.cells (Zaw g) t (0,0))) w.heap.size g:=by
 refine⟨?_,?_,?_,?_,?_,?_,?_,?_⟩<;>(rw[cell_of_row _ _ _ _ _ _ (heap_alloc_new _ _)];rfl)
end RelA
theorem Zm4 (n:Nat) (base:Nat) (v:Value) (L:List (Int×Int)) (w:World) (hn:n<=40) (hown:w.ownsRow base 56 2 v L.length (Zdc L)) :
  Calls Tryz.prog 152 #[.int .i64 n,v] w (Zes n (ofM n L) w):=by
 refine(Ya7 (n:Int) base v L w hown).mono ?_
 rintro e w' ⟨rfl,hat,hb⟩
 have hc:Zal (n:Int)=n:=by unfold Zal;omega
 rw[hc] at hat
 exact⟨_,rfl,.mk' hat (Zol n L hn) (Ydg n L) (Zdo n L),Nat.le_refl _,hb⟩
end
section
theorem of_own (g:Gr) (base:Nat) (v:Value) (L:List (Int×Int)) (w:World) (he:g.E.length<=40) (hown:w.ownsRow base 56 2 v L.length (Zdc L)) :
  Calls Tryz.prog 75 #[g.v,v] w (Zes g.n (ofM g.n L) w):=by
 obtain⟨locs,ea,E,ec,ra,R,rc,ca,C,cc,ma,Rmw,mc,da,Data,dc,ta,Ctrl,tc,ia,CtrlI,ic⟩:=g
 simp only[Gr.v,Gr.n] at he ⊢
 have H:=jh (fun o=>Zm4 E.length base v L (w.alloc o) he (hown.alloc o))
 clear hown he
 go_enter Tryz.func75,Tryz.ntmps75
 go_wp2_with fail
 refine(H.out _).mono ?_
 rintro e w' ⟨d,rfl,hat,hnw,hbe⟩
 have HNW:Hid (w.heap.size<=d):=jh (by have:=hnw;simp at this;omega)
 clear hnw
 have HA:=jh hat
 have HB:=jh (Zab jb hbe)
 clear hat hbe
 go_wp2_with fail
 go_ret
 exact⟨_,rfl,HA.out,HNW.out,HB.out⟩
theorem Zr2 (n:Int) (a:Option Addr) (c:Nat) (w:World) :
  Calls Tryz.prog 152 #[.int .i64 n,.slice a 0 c] w fun e w'=>e=.returned (.pointer (some ⟨w.heap.size,0,none⟩))/\At w' w.heap.size (Zal n) (fun _=>0)/\Below w.heap.size w w':=by
 go_enter Tryz.func152,Tryz.ntmps152
 go_wp2_with fail
 all_goals
  go_loopw [15] (fun i wr=>i=.int .i64 0/\At wr w.heap.size (Zal n) (fun _=>0)/\Below w.heap.size w wr) (fun i _=>0)
  case atStart=>
   exact⟨rfl,Zfr w _ _ (by unfold Zal;omega),jb⟩
  case round=>
   obtain⟨rfl,hat,hbe⟩:=hrel
   have HAT:=jh hat
   clear hat
   go_wp2_with fail
   go_ret
   exact⟨rfl,HAT.out,hbe⟩
theorem Zj1 (n:Nat) (a:Option Addr) (L:List (Int×Int)) (c:Nat) (w:World) (hn:n<=40) (hl:L.length<=300) (h:PIn w a L c) :
  Calls Tryz.prog 152 #[.int .i64 n,.slice a L.length c] w (Zes n (ofM n L) w):=by
 have key:Calls Tryz.prog 152 #[.int .i64 n,.slice a L.length c] w fun e w'=>e=.returned (.pointer (some ⟨w.heap.size,0,none⟩))/\At w' w.heap.size (Zal n) (Zqu (Zal n) L)/\Below w.heap.size w w':=by
  rcases h with⟨rfl,rfl,rfl⟩ | ⟨ad,rfl,rfl⟩ | ⟨b,o,rfl,hb,hc⟩
  ·exact Zr2 n none 0 w
  ·exact Zr2 n _ c w
  ·exact Zr3 n b o L c w (by unfold maxLen;omega) hb hc
 refine key.mono ?_
 rintro e w' ⟨rfl,hat,hb⟩
 have hc:Zal (n:Int)=n:=by unfold Zal;omega
 rw[hc] at hat
 exact⟨_,rfl,.mk' hat (Zol n L hn) (Ydg n L) (Zdo n L),Nat.le_refl _,hb⟩
theorem Yrb (g:Gr) (a:Option Addr) (L:List (Int×Int)) (c:Nat) (w:World) (he:g.E.length<=40) (hl:L.length<=300) (h:PIn w a L c) :
  Calls Tryz.prog 75 #[g.v,.slice a L.length c] w (Zes g.n (ofM g.n L) w):=by
 obtain⟨locs,ea,E,ec,ra,R,rc,ca,C,cc,ma,Rmw,mc,da,Data,dc,ta,Ctrl,tc,ia,CtrlI,ic⟩:=g
 simp only[Gr.v,Gr.n] at he ⊢
 have H:=jh (fun o=>Zj1 E.length a L c (w.alloc o) he hl (h.next ((Below.refl _ _).alloc (Nat.le_refl _) o)))
 clear h he hl
 go_enter Tryz.func75,Tryz.ntmps75
 go_wp2_with fail
 refine(H.out _).mono ?_
 rintro e w' ⟨d,rfl,hat,hnw,hbe⟩
 have HNW:Hid (w.heap.size<=d):=jh (by have:=hnw;simp at this;omega)
 clear hnw
 have HA:=jh hat
 have HB:=jh (Zab jb hbe)
 clear hat hbe
 go_wp2_with fail
 go_ret
 exact⟨_,rfl,HA.out,HNW.out,HB.out⟩
namespace RelA
def rfL (R:List Int) (k:Nat):List (Int×Int):=(List.range k).map fun i=>(R.getD i 0,(i:Int))
theorem Yfc (R:List Int) (k:Nat):(rfL R k).length=k:=by simp[rfL]
theorem Zrq (R:List Int) (k:Nat):rfL R (k+1)=rfL R k ++ [(R.getD k 0,(k:Int))]:=by simp[rfL,List.range_succ]
theorem Zko (l:List (Int×Int)) (p:Int×Int):Zdc (l ++ [p])=Zdc l ++ [.int .i64 p.1,.int .i64 p.2]:=by simp[Zdc]
end RelA
theorem Zqm (g:Gr) (w:World) (h:NsIn w g.ra g.R) (he:g.E.length<=40) (hr:g.R.length<=60) :
  Calls Tryz.prog 179 #[g.v] w (Zes g.n (ofM g.n (rfL g.R g.R.length)) w):=by
 have HOF:=jh (fun base v L w hown=>of_own g base v L w he hown)
 have HG0:=jh (GBox.of_alloc w g 27)
 obtain⟨G,hG⟩:∃ G,G=g:=⟨_,rfl⟩
 obtain⟨locs,ea,E,ec,ra,R,rc,ca,C,cc,ma,Rmw,mc,da,Data,dc,ta,Ctrl,tc,ia,CtrlI,ic⟩:=g
 simp only[Gr.v,Gr.n,Zaw] at he hr HOF h HG0 ⊢
 rw[<- hG] at HG0
 have HI:=jh h
 clear h he
 obtain⟨i0,hi,hz0,hz1,hz2⟩:=info_parts Ziz
 go_enter Tryz.func179,Tryz.ntmps179
 go_wp2_with fail
 obtain⟨w1,hw1⟩:∃ x,x=w.alloc (Obj.cells #[.int .i64 locs,.slice ea E.length ec,.slice ra R.length rc,.slice ca C.length cc,.slice ma Rmw.length mc,.slice da Data.length dc,.slice ta Ctrl.length tc,.slice ia CtrlI.length ic] 27 (0,0)):=⟨_,rfl⟩
 rw[<- hw1] at HG0 ⊢
 have hs1:w1.heap.size=w.heap.size+1:=by rw[hw1];simp
 have HB1:Hid (Below w.heap.size w w1):=jh (by rw[hw1];exact jb)
 have HI1:=jh (HI.out.next HB1.out)
 clear hw1 HI
 go_loopw [3,9] (fun v x wr=>∃ k:Nat,k<=R.length/\x=.int .i64 k/\wr.ownsRow w1.heap.size 56 2 v (rfL R k).length (Zdc (rfL R k))/\Below w1.heap.size w1 wr) (fun _ x _=>R.length-(intOf x).toNat)
 case atStart=>exact⟨0,Nat.zero_le _,rfl,⟨rfl,.inl ⟨rfl,rfl⟩⟩,Below.refl _ _⟩
 case round=>
  obtain⟨k,hk,rfl,hown,hbe⟩:=hrel
  have hsz:=hbe.size
  have hkl:=Yfc R k
  have HOWN:=jh hown
  clear hown
  by_cases hlt:k<R.length
  ·have hdk:decide ((k:Int)<(R.length:Int))=true:=by simp;omega
   have hki:(k:Int)<(R.length:Int):=by omega
   rcases HI1.out.next hbe with h0 | ⟨b,o,rfl,hbl,hcc⟩
   ·rw[h0] at hlt;simp at hlt
   ·have c0:=hcc k hlt
    clear hcc
    have HS:=jh (Zrq R k)
    generalize R.getD k 0=r at *
    go_wp2_with (first
     | (at_builtin;refine wpList_append_own _ rfl (.tmp 14) (.tmp 18) 25 rfl w1.heap.size 56 i0 (.agg #[.int .i64 0,.int .i64 0]) 2 16 Tryz.underlying25 hi hz0 hz1 hz2 rfl (by decide) _ _ _ rfl (HOWN.out.alloc _) ⟨wr.heap.size,0,none⟩ 1 1 [.int .i64 r,.int .i64 k] rfl rfl (World.news_of_block (cs:=#[.int .i64 r,.int .i64 k]) (t:=56) (fr:=(0,0)) (heap_alloc_new wr _)) (by simp[Value.oneCell']) (by unfold maxLen;omega) (by omega) (by simp;omega) ?_;intro v1 w2 hown1 hgrow1 hnil1;have HO1:=jh hown1;have HG1:=jh hgrow1;clear hown1 hgrow1 hnil1))
    go_roundw
    case rel=>
     refine⟨k+1,by omega,by go_num,?_,?_⟩
     ·rw[HS.out,Zko,List.length_append]
      exact HO1.out
     ·exact(hbe.alloc hsz _).grown HG1.out (by simp;omega) (fun j hj=>(HOWN.out.lt j hj).1)
    case measure=>simp[intOf];omega
  ·have hkN:k=R.length:=by omega
   subst hkN
   have hdk:decide ((R.length:Int)<(R.length:Int))=false:=by simp
   have HX:=HG0.out.next hbe
   obtain⟨c0,c1,c2,c3,c4,c5,c6,c7⟩:=HX
   rw[hG] at c0 c1 c2 c3 c4 c5 c6 c7
   dsimp only at c0 c1 c2 c3 c4 c5 c6 c7
   have HBw:=jh (Zab HB1.out hbe)
   have HC:=jh (HOF.out _ _ _ _ HOWN.out)
   go_wp2_with fail
   refine HC.out.mono ?_
   rintro e w3 ⟨d,rfl,hat,hnw,hb3⟩
   have HNW:=jh (Nat.le_trans HBw.out.size hnw)
   clear hnw
   have HA:=jh hat
   have HBf:=jh (Zab HBw.out hb3)
   clear hat hb3
   go_wp2_with fail
   go_ret
   exact⟨_,rfl,HA.out,HNW.out,HBf.out⟩
end
section
namespace RelA
theorem Zp3 (n:Nat) (l:List (Int×Int)) (i j:Nat):ofM n l i j=true↔∃ p∈l,inB n p.1=true/\inB n p.2=true/\p.1=i/\p.2=j:=Zkf n l i j
theorem Zeg (N:Nat) (M:Nat->Nat->Bool) (k:Nat) (p:Nat×Nat):p∈Zjb N M k↔p.1<k/\p.2<N/\M p.1 p.2=true:=by
 unfold Zjb Zi5
 rw[List.mem_flatMap]
 constructor
 ·rintro⟨a,ha,hp⟩
  obtain⟨b,hb,rfl⟩:=List.mem_map.1 hp
  have:=List.mem_filter.1 hb
  exact⟨List.mem_range.1 ha,List.mem_range.1 this.1,this.2⟩
 ·rintro⟨h1,h2,h3⟩
  exact⟨p.1,List.mem_range.2 h1,List.mem_map.2 ⟨p.2,List.mem_filter.2 ⟨List.mem_range.2 h2,h3⟩,rfl⟩⟩
theorem Zxj {n:Nat} {M:Nat->Nat->Bool} (h:WFM n M):ofM n (Zdz (Zay n M))=M:=by
 funext i j
 rw[Bool.eq_iff_iff,Zp3]
 constructor
 ·rintro⟨p,hp,_,_,e1,e2⟩
  unfold Zdz at hp
  obtain⟨q,hq,rfl⟩:=List.mem_map.1 hp
  have:=(Zeg n M n q).1 hq
  have e3:q.1=i:=Int.ofNat_inj.1 e1
  have e4:q.2=j:=Int.ofNat_inj.1 e2
  rw[<- e3,<- e4];exact this.2.2
 ·intro a
  have hw:=h i j a
  refine⟨((i:Int),(j:Int)),List.mem_map.2 ⟨(i,j),(Zeg n M n (i,j)).2 ⟨hw.1,hw.2,a⟩,rfl⟩,?_,?_,rfl,rfl⟩
  ·unfold inB;simp;omega
  ·unfold inB;simp;omega
theorem Zw8 (M:Nat->Nat->Bool) (i q:Nat) (h:∀ j,j<q->M i j=false):Zi5 M i q=[]:=by
 unfold Zi5
 rw[List.map_eq_nil_iff,List.filter_eq_nil_iff]
 intro j hj
 rw[h j (List.mem_range.1 hj)];simp
theorem Zx7 (l:List (Nat×Nat)):Zdc (Zdz l)=Zat l:=by
 unfold Zdc Zdz Zat
 rw[List.flatMap_map]
theorem Zjf {w:World} {base:Nat} {e:TypeId} {size:Nat} {v:Value} {L:List (Nat×Nat)} (h:w.ownsRow base e size v L.length (Zat L)):w.ownsRow base e size v (Zdz L).length (Zdc (Zdz L)):=by
 rw[Zx6,Zx7];exact h
def poB (e f:Int):Bool:=(e==0&&f !=0)||(e !=0&&e==f)
def Ev.at(E:List Ev) (i:Nat):Ev:=E.getD i Ev.zero
def poM (E:List Ev):Nat->Nat->Bool:=fun i j=>(decide (i<j)&&decide (j<E.length))&&poB (Ev.at E i).th (Ev.at E j).th
theorem Zst (E:List Ev):WFM E.length (poM E):=fun i j a=>by
 unfold poM at a
 rw[Bool.and_eq_true,Bool.and_eq_true,decide_eq_true_eq,decide_eq_true_eq] at a
 omega
end RelA
theorem Yur (g:Gr) (w:World) (h:EsIn w g.ea g.E) (he:g.E.length<=40) (hc:g.E.length<=g.ec) :
  Calls Tryz.prog 81 #[g.v] w (Zes g.n (poM g.E) w):=by
 have HOF:=jh (fun base v L w hown=>of_own g base v L w he hown)
 have HG0:=jh (GBox.of_alloc w g 27)
 obtain⟨G,hG⟩:∃ G,G=g:=⟨_,rfl⟩
 obtain⟨locs,ea,E,ec,ra,R,rc,ca,C,cc,ma,Rmw,mc,da,Data,dc,ta,Ctrl,tc,ia,CtrlI,ic⟩:=g
 simp only[Gr.v,Gr.n,Zaw] at he hc HOF h HG0 ⊢
 rw[<- hG] at HG0
 have HI:=jh h
 clear h
 obtain⟨i0,hi,hz0,hz1,hz2⟩:=info_parts Ziz
 have hM:=Zst E
 have hmin:min (E.length:Int) 40=(E.length:Int):=by omega
 go_enter Tryz.func81,Tryz.ntmps81
 go_wp2_with fail
 obtain⟨w1,hw1⟩:∃ x,x=w.alloc (Obj.cells #[.int .i64 locs,.slice ea E.length ec,.slice ra R.length rc,.slice ca C.length cc,.slice ma Rmw.length mc,.slice da Data.length dc,.slice ta Ctrl.length tc,.slice ia CtrlI.length ic] 27 (0,0)):=⟨_,rfl⟩
 rw[<- hw1] at HG0 ⊢
 have hs1:w1.heap.size=w.heap.size+1:=by rw[hw1];simp
 have HB1:Hid (Below w.heap.size w w1):=jh (by rw[hw1];exact jb)
 clear hw1
 have HI1:=jh (HI.out.next HB1.out)
 clear HI
 go_loopw [4,18] (fun v x wr=>∃ k:Nat,k<=E.length/\x=.int .i64 k/\wr.ownsRow w1.heap.size 56 2 v (Zjb E.length (poM E) k).length (Zat (Zjb E.length (poM E) k))/\Below w1.heap.size w1 wr) (fun _ x _=>E.length-(intOf x).toNat)
 case atStart=>exact⟨0,Nat.zero_le _,rfl,⟨rfl,.inl ⟨rfl,rfl⟩⟩,Below.refl _ _⟩
 case round=>
  obtain⟨k,hk,rfl,hown,hbe⟩:=hrel
  have hpl:=Zhm E.length (poM E) he k
  have HOWN:=jh hown
  clear hown
  by_cases hlt:k<E.length
  ·obtain⟨wo,rfl⟩:∃ wo:World,wo=wr:=⟨_,rfl⟩
   have hdk:decide ((k:Int)<(E.length:Int))=true:=by simp;omega
   have hki:(k:Int)<(E.length:Int):=by omega
   have hk40:(k:Int)<40:=by omega
   go_wp2_with fail
   go_loopw [4,6] (fun v x wi=>∃ q:Nat,k+1<=q/\q<=E.length/\x=.int .i64 q/\wi.ownsRow w1.heap.size 56 2 v (Zjb E.length (poM E) k++Zi5 (poM E) k q).length (Zat (Zjb E.length (poM E) k++Zi5 (poM E) k q))/\Below w1.heap.size w1 wi) (fun _ x _=>E.length-(intOf x).toNat)
   case atStart=>
    refine⟨k+1,Nat.le_refl _,by omega,by go_num,?_,hbe⟩
    have hn:=Zw8 (poM E) k (k+1) (fun j hj=>by
     unfold poM
     have:¬ k<j:=by omega
     simp[this])
    rw[hn,List.append_nil];exact HOWN.out
   case round=>
    obtain⟨q,hq1,hq,rfl,hown,hbi⟩:=hrel
    have hsz:=hbi.size
    have hrl:=Zmx (poM E) k q
    have hll:(Zjb E.length (poM E) k++Zi5 (poM E) k q).length<=1700:=by rw[List.length_append];omega
    have HOWNI:=jh hown
    clear hown
    by_cases hql:q<E.length
    ·have hdq:decide ((q:Int)<(E.length:Int))=true:=by simp;omega
     have hqi:(q:Int)<(E.length:Int):=by omega
     have hq40:(q:Int)<40:=by omega
     have hX:poM E k q=poB (Ev.at E k).th (Ev.at E q).th:=by
      unfold poM
      have a1:k<q:=by omega
      simp[a1,hql]
     rcases HI1.out.next hbi with h0 | ⟨b,o,rfl,hbl,hcc⟩
     ·rw[h0] at hlt;simp at hlt
     ·have d0:=(hcc k hlt).c0
      have d1:=(hcc q hql).c0
      clear hcc
      change _=some (Value.int _ (Ev.at E k).th) at d0
      change _=some (Value.int _ (Ev.at E q).th) at d1
      generalize (Ev.at E k).th=x at *
      generalize (Ev.at E q).th=y at *
      have cs:(x=0/\y=0)∨(x=0/\y≠0)∨(x≠0/\x=y)∨(x≠0/\x≠y):=by omega
      rcases cs with⟨hx,hy⟩ | ⟨hx,hy⟩ | ⟨hx,hy⟩ | ⟨hx,hy⟩
      ·have HX:Hid (poM E k q=false):=jh (by rw[hX,hx,hy];rfl)
       subst hx hy
       clear hX
       go_wp2_with fail
       go_region
       go_wp2_with fail
       go_roundw
       case rel=>
        refine⟨q+1,by omega,by omega,by go_num,?_,hbi.drew⟩
        rw[Zpy (poM E) k q HX.out];exact HOWNI.out
       case measure=>simp[intOf];omega
      ·have HX:Hid (poM E k q=true):=jh (by rw[hX,hx];unfold poB;simp[hy])
       have hy1:(y !=0)=true:=by simp[hy]
       subst hx
       clear hX
       go_wp2_with fail
       go_region
       go_wp2_with (first
       | (at_builtin;refine wpList_append_own _ rfl (.tmp 54) (.tmp 58) 25 rfl w1.heap.size 56 i0 (.agg #[.int .i64 0,.int .i64 0]) 2 16 Tryz.underlying25 hi hz0 hz1 hz2 rfl (by decide) _ _ _ rfl (HOWNI.out.alloc _) ⟨wr.heap.size,0,none⟩ 1 1 [.int .i64 k,.int .i64 q] rfl rfl (World.news_of_block (cs:=#[.int .i64 k,.int .i64 q]) (t:=56) (fr:=(0,0)) (heap_alloc_new wr _)) (by simp[Value.oneCell']) (by unfold maxLen;omega) (by omega) (by simp;omega) ?_;intro v1 w2 hown1 hgrow1 hnil1;have HO1:=jh hown1;have HG1:=jh hgrow1;clear hown1 hgrow1 hnil1))
       go_roundw
       case rel=>
        refine⟨q+1,by omega,by omega,by go_num,?_,?_⟩
        ·rw[Zmw (poM E) k q HX.out,<- List.append_assoc,Zbj,List.length_append]
         exact HO1.out
        ·exact(hbi.alloc hsz _).drew.grown HG1.out (by simp;omega) (fun j hj=>(HOWNI.out.lt j hj).1)
       case measure=>simp[intOf];omega
      ·have HX:Hid (poM E k q=true):=jh (by rw[hX,<- hy];unfold poB;simp[hx])
       have hx1:(x==0)=false:=by simp[hx]
       have hx2:(x !=0)=true:=by simp[hx]
       subst hy
       clear hX
       go_wp2_with fail
       go_region
       go_wp2_with (first
       | (at_builtin;refine wpList_append_own _ rfl (.tmp 54) (.tmp 58) 25 rfl w1.heap.size 56 i0 (.agg #[.int .i64 0,.int .i64 0]) 2 16 Tryz.underlying25 hi hz0 hz1 hz2 rfl (by decide) _ _ _ rfl (HOWNI.out.alloc _) ⟨wr.heap.size,0,none⟩ 1 1 [.int .i64 k,.int .i64 q] rfl rfl (World.news_of_block (cs:=#[.int .i64 k,.int .i64 q]) (t:=56) (fr:=(0,0)) (heap_alloc_new wr _)) (by simp[Value.oneCell']) (by unfold maxLen;omega) (by omega) (by simp;omega) ?_;intro v1 w2 hown1 hgrow1 hnil1;have HO1:=jh hown1;have HG1:=jh hgrow1;clear hown1 hgrow1 hnil1))
       go_roundw
       case rel=>
        refine⟨q+1,by omega,by omega,by go_num,?_,?_⟩
        ·rw[Zmw (poM E) k q HX.out,<- List.append_assoc,Zbj,List.length_append]
         exact HO1.out
        ·exact(hbi.alloc hsz _).drew.grown HG1.out (by simp;omega) (fun j hj=>(HOWNI.out.lt j hj).1)
       case measure=>simp[intOf];omega
      ·have HX:Hid (poM E k q=false):=jh (by rw[hX];unfold poB;simp[hx,hy])
       have hx1:(x==0)=false:=by simp[hx]
       have hx2:(x !=0)=true:=by simp[hx]
       have hy1:(x==y)=false:=by simp[hy]
       clear hX
       go_wp2_with fail
       go_region
       go_wp2_with fail
       go_roundw
       case rel=>
        refine⟨q+1,by omega,by omega,by go_num,?_,hbi.drew⟩
        rw[Zpy (poM E) k q HX.out];exact HOWNI.out
       case measure=>simp[intOf];omega
    ·have hqN:q=E.length:=by omega
     have HQ:=jh hqN
     have hdq:decide ((q:Int)<(E.length:Int))=false:=by simp;omega
     clear hqN
     go_wp2_with fail
     go_roundw
     case rel=>
      refine⟨k+1,by omega,by go_num,?_,hbi⟩
      have h1:=HOWNI.out
      rw[HQ.out] at h1
      rw[Zhx];exact h1
     case measure=>simp[intOf];omega
  ·have hkN:k=E.length:=by omega
   subst hkN
   have hdk:decide ((E.length:Int)<(E.length:Int))=false:=by simp
   obtain⟨c0,c1,c2,c3,c4,c5,c6,c7⟩:=HG0.out.next hbe
   rw[hG] at c0 c1 c2 c3 c4 c5 c6 c7
   dsimp only at c0 c1 c2 c3 c4 c5 c6 c7
   have HBw:=jh (Zab HB1.out hbe)
   have HC:=jh (HOF.out _ _ _ _ (Zjf HOWN.out))
   have HEQ:=jh (Zxj hM)
   unfold Zay at HEQ
   rw[HEQ.out] at HC
   go_wp2_with fail
   refine HC.out.mono ?_
   rintro e w3 ⟨d,rfl,hat,hnw,hb3⟩
   have HNW:=jh (Nat.le_trans HBw.out.size hnw)
   clear hnw
   have HA:=jh hat
   have HBf:=jh (Zab HBw.out hb3)
   clear hat hb3
   go_wp2_with fail
   go_ret
   exact⟨_,rfl,HA.out,HNW.out,HBf.out⟩
end
section
namespace RelA
def Ev.v (e:Ev):Value:=.agg #[.int .i64 e.th,.int .i64 e.kd,.int .i64 e.md,.int .i64 e.lc,.int .i64 e.vl,.bool e.ex]
def Zku (L:List Int) (x:Int):Nat->Int
 | 0=>-1
 | q+1=>if Zku L x q=-1 then (if L.getD q 0=x then (q:Int) else -1) else Zku L x q
theorem Ybl (L:List Int) (x:Int) (q:Nat):(0<=Zku L x q↔∃ j,j<q/\L.getD j 0=x)/\(-1<=Zku L x q):=by
 induction q with
 | zero=>exact⟨⟨fun h=>by simp[Zku] at h,fun ⟨j,hj,_⟩=>absurd hj (by omega)⟩,by simp[Zku]⟩
 | succ q ih=>
  obtain⟨ih,ihb⟩:=ih
  unfold Zku
  by_cases h1:Zku L x q=-1
  ·rw[if_pos h1]
   have hno:¬ ∃ j,j<q/\L.getD j 0=x:=fun h=>by have:=ih.2 h;omega
   by_cases h2:L.getD q 0=x
   ·rw[if_pos h2]
    exact⟨⟨fun _=>⟨q,by omega,h2⟩,fun _=>by omega⟩,by omega⟩
   ·rw[if_neg h2]
    refine⟨⟨fun h=>absurd h (by omega),fun ⟨j,hj,e⟩=>?_⟩,by omega⟩
    by_cases h3:j=q
    ·rw[h3] at e;exact absurd e h2
    ·exact absurd ⟨j,by omega,e⟩ hno
  ·rw[if_neg h1]
   have hp:0<=Zku L x q:=by omega
   obtain⟨j,hj,e⟩:=ih.1 hp
   exact⟨⟨fun _=>⟨j,by omega,e⟩,fun _=>hp⟩,ihb⟩
def Zyf (L:List Int) (x:Int):Bool:=L.any fun y=>y==x
theorem Ybm (L:List Int) (x:Int):decide (0<=Zku L x L.length)=Zyf L x:=by
 rw[Bool.eq_iff_iff,decide_eq_true_eq,(Ybl L x L.length).1]
 unfold Zyf
 rw[List.any_eq_true]
 constructor
 ·rintro⟨j,hj,e⟩
  refine⟨L.getD j 0,?_,by simp only[beq_iff_eq];exact e⟩
  rw[List.getD_eq_getElem?_getD,List.getElem?_eq_getElem hj];exact List.getElem_mem hj
 ·rintro⟨y,hy,e⟩
  obtain⟨j,hj,rfl⟩:=List.mem_iff_getElem.1 hy
  refine⟨j,hj,?_⟩
  rw[List.getD_eq_getElem?_getD,List.getElem?_eq_getElem hj];simpa using e
end RelA
theorem Zxu (a:Option Addr) (L:List Int) (c:Nat) (x:Int) (w:World) (h:NsIn w a L) (hl:L.length<=1000) :
  Calls Tryz.prog 183 #[.slice a L.length c,.int .i64 x] w fun e w'=>e=.returned (.int .i64 (Zku L x L.length))/\w=w':=by
 have HI:=jh h
 clear h
 go_enter Tryz.func183,Tryz.ntmps183
 go_wp2_with fail
 go_loopw [8] (fun v wr=>wr=w/\∃ q:Nat,q<=L.length/\v=.int .i64 q/\Zku L x q=-1) (fun v _=>L.length-(intOf v).toNat)
 case atStart=>exact⟨rfl,0,Nat.zero_le _,rfl,rfl⟩
 case round=>
  obtain⟨rfl,q,hq,rfl,hno⟩:=hrel
  by_cases hlt:q<L.length
  ·have hdk:decide ((q:Int)<(L.length:Int))=true:=by simp;omega
   have hqi:(q:Int)<(L.length:Int):=by omega
   have hq1:(q:Int)<1000:=by omega
   rcases HI.out with h0 | ⟨b,o,rfl,hbl,hcc⟩
   ·rw[h0] at hlt;simp at hlt
   ·have c0:=hcc q hlt
    clear hcc
    by_cases hx:x=L.getD q 0
    ·have hd:(x==L.getD q 0)=true:=by simp[hx]
     have HS:Hid (Zku L x (q+1)=(q:Int)):=jh (by unfold Zku;rw[if_pos hno,if_pos hx.symm])
     have HN:Hid (∀ d,Zku L x (q+1+d)=(q:Int)):=jh (fun d=>by
      induction d with
      | zero=>exact HS.out
      | succ d ih=>show Zku L x ((q+1+d)+1)=_;unfold Zku;rw[ih,if_neg (by omega)])
     have HF:Hid (Zku L x L.length=(q:Int)):=jh (by have:=HN.out (L.length-(q+1));rwa [show q+1+(L.length-(q+1))=L.length by omega] at this)
     generalize L.getD q 0=y at *
     clear hx
     go_wp2_with fail
     go_ret
     exact⟨by rw[HF.out];rfl,rfl⟩
    ·have hd:(x==L.getD q 0)=false:=by rw[beq_eq_false_iff_ne];exact hx
     have HS:Hid (Zku L x (q+1)=-1):=jh (by unfold Zku;rw[if_pos hno,if_neg (fun e=>hx e.symm)])
     generalize L.getD q 0=y at *
     clear hx
     go_wp2_with fail
     go_roundw
     case rel=>exact⟨trivial,q+1,hlt,by go_num,HS.out⟩
     case measure=>simp[intOf];omega
  ·have hdk:decide ((q:Int)<(L.length:Int))=false:=by simp;omega
   have e:q=L.length:=by omega
   have HE:Hid (Zku L x L.length=-1):=jh (by rw[<- e];exact hno)
   clear e
   go_wp2_with fail
   go_ret
   exact⟨by rw[HE.out];rfl,rfl⟩
theorem Zpc (a:Option Addr) (L:List Int) (c:Nat) (x:Int) (w:World) (h:NsIn w a L) (hl:L.length<=1000) :
  Calls Tryz.prog 151 #[.slice a L.length c,.int .i64 x] w fun e w'=>e=.returned (.bool (Zyf L x))/\w=w':=by
 have H:=jh (Zxu a L c x w h hl)
 have HH:=jh (Ybm L x)
 clear h
 go_enter Tryz.func151,Tryz.ntmps151
 go_wp2_with fail
 refine H.out.mono ?_
 rintro e w' ⟨rfl,rfl⟩
 generalize Zku L x L.length=r at *
 go_wp2_with fail
 go_ret
 exact⟨by rw[<- HH.out];rfl,rfl⟩
namespace RelA
def evB (kind:Int) (modes:List Int) (e:Ev):Bool:=(e.kd==kind)&&((modes.length==0)||Zyf modes e.md)
end RelA
theorem Ygt (kb mb:Nat) (kind:Int) (ma:Option Addr) (modes:List Int) (mc:Nat) (e:Ev) (w:World) (hk:w.cell? ⟨kb,0,none⟩=some (.int .i64 kind))
  (hm:w.cell? ⟨mb,0,none⟩=some (.slice ma modes.length mc)) (hn:NsIn w ma modes) (hl:modes.length<=10) :
  Calls Tryz.prog 150 #[e.v,.pointer (some ⟨kb,0,none⟩),.pointer (some ⟨mb,0,none⟩)] w fun en w'=>en=.returned (.bool (evB kind modes e))/\Below w.heap.size w w':=by
 obtain⟨x0,x1,x2,x3,x4,x5⟩:=e
 unfold evB Ev.v
 dsimp only
 have HC:=jh (fun o=>Zpc ma modes mc x2 (w.alloc o) (hn.next ((Below.refl _ _).alloc (Nat.le_refl _) o)) (by omega))
 have hk2:=fun o=>Zaa hk ((Below.refl w.heap.size w).alloc (Nat.le_refl _) o)
 have hm2:=fun o=>Zaa hm ((Below.refl w.heap.size w).alloc (Nat.le_refl _) o)
 have hk3:=hk2 (Obj.cells #[.int .i64 x0,.int .i64 x1,.int .i64 x2,.int .i64 x3,.int .i64 x4,.bool x5] 53 (0,0))
 have hm3:=hm2 (Obj.cells #[.int .i64 x0,.int .i64 x1,.int .i64 x2,.int .i64 x3,.int .i64 x4,.bool x5] 53 (0,0))
 have HB:Hid (Below w.heap.size w (w.alloc (Obj.cells #[.int .i64 x0,.int .i64 x1,.int .i64 x2,.int .i64 x3,.int .i64 x4,.bool x5] 53 (0,0)))):=jh jb
 clear hk hm hn hk2 hm2
 by_cases h1:x1=kind
 ·have d1:(x1==kind)=true:=by simp[h1]
  by_cases h2:modes.length=0
  ·have d2:((modes.length:Int)==0)=true:=by simp[h2]
   have HR:Hid (((x1==kind)&&(modes.length==0||Zyf modes x2))=true):=jh (by simp[h1,h2])
   rw[HR.out]
   clear h1 h2
   go_enter Tryz.func150,Tryz.ntmps150
   go_wp2_with fail
   go_ret
   exact⟨rfl,HB.out⟩
  ·have d2:((modes.length:Int)==0)=false:=by rw[beq_eq_false_iff_ne];omega
   have HR:Hid (((x1==kind)&&(modes.length==0||Zyf modes x2))=Zyf modes x2):=jh (by simp[h1,h2])
   rw[HR.out]
   clear h1 h2
   go_enter Tryz.func150,Tryz.ntmps150
   go_wp2_with fail
   refine(HC.out _).mono ?_
   rintro en w' ⟨rfl,rfl⟩
   go_wp2_with fail
   go_ret
   exact⟨rfl,HB.out⟩
 ·have d1:(x1==kind)=false:=by simp[h1]
  have HR:Hid (((x1==kind)&&(modes.length==0||Zyf modes x2))=false):=jh (by simp[h1])
  rw[HR.out]
  clear h1
  go_enter Tryz.func150,Tryz.ntmps150
  go_wp2_with fail
  go_ret
  exact⟨rfl,HB.out⟩
end
end Go.Proofs.YthcnhbclagegeaaGreatDoor
