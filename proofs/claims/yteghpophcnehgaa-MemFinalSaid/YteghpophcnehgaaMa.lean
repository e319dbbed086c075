/-
  What the functions that the law reaches do, one by one: contracts. Conditions: those that each of them prints.
-/
import Derived.Test.YteghpophcnehgaaRows
import Derived.WalkKit
import Derived.WalkSpells
import Derived.WalkLawsBesides
import Derived.Lib.Hide
import Derived.Laws.Rows
import Derived.Deep.QuietTactic
import Derived.BigQuiet
import Derived.OwnWalk
import Derived.Laws.AppendOwn
import Derived.Deep.AppendLies
import Derived.Deep.RegionHeld3
import Derived.Deep.RegionWith
import Derived.Laws.ResultCell
namespace Go.Proofs.Yteghpophcnehgaa
open Go.RowKit
namespace ExprA
def TIn (w:World) (a:Option Addr) (L:List (Int × Int)):Prop:=
 L=[] ∨ ∃ b o,a=some ⟨b,o,none⟩∧b < w.heap.size∧∀ i,i < L.length →
  w.cell? ⟨b,o + i * 2,none⟩=some (.int .i64 (L.getD i (0,0)).1)∧w.cell? ⟨b,o + i * 2 + 1,none⟩=some (.int .i64 (L.getD i (0,0)).2)
theorem TIn.next {w w':World} {a:Option Addr} {L:List (Int × Int)} (h:TIn w a L) (hb:Below w.heap.size w w'):TIn w' a L:=by
 rcases h with h | ⟨b,o,h1,h2,h3⟩
 ·exact .inl h
 ·exact .inr ⟨b,o,h1,Nat.lt_of_lt_of_le h2 hb.size,fun i hi=>⟨(hb.cell (p:=⟨b,o + i * 2,none⟩) h2).trans (h3 i hi).1,(hb.cell (p:=⟨b,o + i * 2 + 1,none⟩) h2).trans (h3 i hi).2⟩⟩
def okTok (p:Int × Int) (n:Nat):Option Nat:=
 if p.1=1∧-2147483648≤p.2∧p.2≤2147483647 then some (n + 1)
 else if p.1=2∧0≤p.2∧p.2 < 8 then some (n + 1)
 else if p.1=3∧1≤p.2∧p.2≤6∧2≤n then some (n - 1) else none
def chkTo (L:List (Int × Int)):Nat→Option Nat
 | 0=>some 0
 | k + 1=>(chkTo L k).bind (okTok (L.getD k (0,0)))
def checkB (L:List (Int × Int)):Bool:=decide (L.length≤9) && (chkTo L L.length == some 1)
theorem chkTo_none {L:List (Int × Int)} {k:Nat} (h:chkTo L k=none) (j:Nat):chkTo L (k + j)=none:=by
 induction j with
 | zero=>exact h
 | succ j ih=>show (chkTo L (k + j)).bind _=none; rw [ih]; rfl
theorem checkB_bad {L:List (Int × Int)} {k P:Nat} (hk:k < L.length) (h:chkTo L k=some P) (hb:okTok (L.getD k (0,0)) P=none):checkB L=false:=by
 have h1:chkTo L (k + 1)=none:=by show (chkTo L k).bind _=none; rw [h]; exact hb
 have h2:=chkTo_none h1 (L.length - (k + 1))
 rw [show k + 1 + (L.length - (k + 1))=L.length by omega] at h2
 simp [checkB,h2]
theorem chk_step {L:List (Int × Int)} {k P Q:Nat} (h:chkTo L k=some P) (hb:okTok (L.getD k (0,0)) P=some Q):chkTo L (k + 1)=some Q:=by
 show (chkTo L k).bind _=_; rw [h]; exact hb
end ExprA
open ExprA
namespace ExprA
theorem below_next {w a b:World} (h:Below w.heap.size w a) (g:Below a.heap.size a b):Below w.heap.size w b:=h.trans (g.mono h.size)
theorem bel_drewN (w:World) (n:Nat):Below w.heap.size w (w.drewN n):=⟨rfl,rfl,rfl,Nat.le_refl _,fun _ _=>rfl⟩
def NIn (w:World) (a:Option Addr) (R:List Int):Prop:=
 R=[] ∨ ∃ b o,a=some ⟨b,o,none⟩∧b < w.heap.size∧∀ i,i < R.length→w.cell? ⟨b,o + i,none⟩=some (.int .i64 (R.getD i 0))
theorem NIn.next {w w':World} {a:Option Addr} {R:List Int} (h:NIn w a R) (hb:Below w.heap.size w w'):NIn w' a R:=by
 rcases h with h | ⟨b,o,h1,h2,h3⟩
 ·exact .inl h
 ·exact .inr ⟨b,o,h1,Nat.lt_of_lt_of_le h2 hb.size,fun i hi=>(hb.cell (p:=⟨b,o + i,none⟩) h2).trans (h3 i hi)⟩
theorem own_len {w:World} {base e size:Nat} {v:Value} {n:Nat} {xs:List Value} (h:w.ownsRow base e size v n xs):∃ pa c,v=.slice pa n c:=by
 rcases h.2 with ⟨rfl,rfl⟩ | ⟨g,cap,cur,rfl,_⟩
 ·exact ⟨none,0,rfl⟩
 ·exact ⟨_,cap,rfl⟩
theorem own_below {w w':World} {B e size n:Nat} {v:Value} {xs:List Value} (h:w.ownsRow B e size v n xs) (hb:Below w.heap.size w w'):w'.ownsRow B e size v n xs:=by
 have hg:w.grownBy w' none:=⟨hb.os,hb.tape,hb.output,hb.size,fun k hk _=>hb.block k hk⟩
 refine h.kept hg ?_
 cases v.ownBlock with
 | none=>exact .inl rfl
 | some g=>exact .inr (by simp)
def icells (l:List (Int × Int)):List Value:=l.flatMap fun p=>[.int .i64 p.1,.int .i64 p.2]
theorem icells_len (l:List (Int × Int)):(icells l).length=l.length * 2:=by
 induction l with
 | nil=>rfl
 | cons p l ih=>
  show (_::_::icells l).length=_
  rw [List.length_cons,List.length_cons,ih,List.length_cons]; omega
theorem icells_get (l:List (Int × Int)) (i:Nat) (hi:i < l.length):(icells l)[i * 2]?=some (.int .i64 (l.getD i (0,0)).1)∧(icells l)[i * 2 + 1]?=some (.int .i64 (l.getD i (0,0)).2):=by
 induction l generalizing i with
 | nil=>simp at hi
 | cons p l ih=>
  cases i with
  | zero=>exact ⟨rfl,rfl⟩
  | succ i=>
   have:=ih i (by simpa using hi)
   have e1:(i + 1) * 2=i * 2 + 2:=by omega
   rw [e1]
   exact this
theorem icells_app (a b:List (Int × Int)):icells (a ++ b)=icells a ++ icells b:=by unfold icells; exact List.flatMap_append
theorem tmod_neg (n:Int) (k:Nat) (hk:0 < k) (h:n.tmod k < 0):n.tmod k + k=n % k:=by
 have:=Int.tmod_eq_emod (a:=n) (b:=k)
 have h1:=Int.emod_nonneg n (show (k:Int) ≠ 0 by omega)
 split at this <;> omega
theorem tmod_pos (n:Int) (k:Nat) (hk:0 < k) (h:¬ n.tmod k < 0):n.tmod k=n % k:=by
 have:=Int.tmod_eq_emod (a:=n) (b:=k)
 have h1:=Int.emod_lt_of_pos n (show (0:Int) < k by omega)
 split at this <;> omega
end ExprA
set_option maxRecDepth 100000 in
set_option maxHeartbeats 400000 in
theorem place_any (n:Int) (k:Nat) (w:World) (hk:0 < k) (hk2:k≤1099511627776) :
  Calls Try.prog 9 #[.int .i64 n,.int .i64 k] w fun e w'=>e=.returned (.int .i64 (n % k))∧w=w':=by
 by_cases hz:n.tmod k < 0
 ·have HM:=Lib.hid (tmod_neg n k hk hz)
  have hlow:-(k:Int) < n.tmod k:=by
   have:=HM.out
   have h1:=Int.emod_nonneg n (show (k:Int) ≠ 0 by omega)
   by_cases he:n % (k:Int)=0
   ·have h0:n.tmod k=0:=Int.tmod_eq_zero_of_dvd (Int.dvd_of_emod_eq_zero he)
    omega
   ·omega
  go_enter Try.func9,Try.ntmps9
  go_wp2_with fail
  go_ret
  exact ⟨by rw [← HM.out]; rfl,rfl⟩
 ·have HM:=Lib.hid (tmod_pos n k hk hz)
  go_enter Try.func9,Try.ntmps9
  go_wp2_with fail
  go_ret
  exact ⟨by rw [← HM.out]; rfl,rfl⟩
namespace SndA
theorem cell_next {x:Addr} {v:Value} {w w':World} (h:w.cell? x=some v) (hb:Below w.heap.size w w'):w'.cell? x=some v:=(hb.cell (p:=x) (World.block_lt_of_cell? w x h)).trans h
def iagg (k m m2 r l n:Int) (a:Option Addr) (N c:Nat):Value:=.agg #[.int .i64 k,.int .i64 m,.int .i64 m2,.int .i64 r,.int .i64 l,.slice a N c,.int .i64 n]
structure Ins where
 k:Int
 m:Int
 m2:Int
 r:Int
 l:Int
 n:Int
 a:Option Addr
 E:List (Int × Int)
 c:Nat
def Ins.zero:Ins:=⟨0,0,0,0,0,0,none,[],0⟩
structure LCells (w:World) (b o:Nat) (i:Ins):Prop where
 c0:w.cell? ⟨b,o,none⟩=some (.int .i64 i.k)
 c1:w.cell? ⟨b,o + 1,none⟩=some (.int .i64 i.m)
 c2:w.cell? ⟨b,o + 2,none⟩=some (.int .i64 i.m2)
 c3:w.cell? ⟨b,o + 3,none⟩=some (.int .i64 i.r)
 c4:w.cell? ⟨b,o + 4,none⟩=some (.int .i64 i.l)
 c5:w.cell? ⟨b,o + 5,none⟩=some (.slice i.a i.E.length i.c)
 c6:w.cell? ⟨b,o + 6,none⟩=some (.int .i64 i.n)
theorem LCells.next {w w':World} {b o:Nat} {i:Ins} (h:LCells w b o i) (hb:Below w.heap.size w w'):LCells w' b o i:=
 ⟨cell_next h.c0 hb,cell_next h.c1 hb,cell_next h.c2 hb,cell_next h.c3 hb,cell_next h.c4 hb,cell_next h.c5 hb,cell_next h.c6 hb⟩
def LIn (w:World) (pa:Option Addr) (L:List Ins):Prop:=
 L=[] ∨ ∃ b o,pa=some ⟨b,o,none⟩∧b < w.heap.size∧∀ q,q < L.length→LCells w b (o + q * 7) (L.getD q Ins.zero)
theorem LIn.next {w w':World} {pa:Option Addr} {L:List Ins} (h:LIn w pa L) (hb:Below w.heap.size w w'):LIn w' pa L:=by
 rcases h with h | ⟨b,o,h1,h2,h3⟩
 ·exact .inl h
 ·exact .inr ⟨b,o,h1,Nat.lt_of_lt_of_le h2 hb.size,fun q hq=>(h3 q hq).next hb⟩
structure Th where
 a:Option Addr
 L:List Ins
 c:Nat
def Th.zero:Th:=⟨none,[],0⟩
theorem alloc_old (w:World) (o:Obj) (i:Nat) (h:i < w.heap.size):(w.alloc o).heap[i]?=w.heap[i]?:=((Below.refl w.heap.size w).alloc (Nat.le_refl _) o).block i h
theorem alloc_at (w:World) (o:Obj) (n:Nat) (h:n=w.heap.size):(w.alloc o).heap[n]?=some o:=by subst h; exact heap_alloc_new _ _
theorem set7_far (w:World) (l k:Nat) (v0 v1 v2 v3 v4 v5 v6:Value) (h:k ≠ l):(((((((w.setCell ⟨l,0,none⟩ v0).setCell ⟨l,1,none⟩ v1).setCell ⟨l,2,none⟩ v2).setCell ⟨l,3,none⟩ v3).setCell ⟨l,4,none⟩ v4).setCell ⟨l,5,none⟩ v5).setCell ⟨l,6,none⟩ v6).heap[k]?=w.heap[k]?:=by
 have s0:(w.setCell ⟨l,0,none⟩ v0).heap[k]?=w.heap[k]?:=Below.heap_setCell _ ⟨l,0,none⟩ _ k h
 have s1:((w.setCell ⟨l,0,none⟩ v0).setCell ⟨l,1,none⟩ v1).heap[k]?=(w.setCell ⟨l,0,none⟩ v0).heap[k]?:=Below.heap_setCell _ ⟨l,1,none⟩ _ k h
 have s2:(((w.setCell ⟨l,0,none⟩ v0).setCell ⟨l,1,none⟩ v1).setCell ⟨l,2,none⟩ v2).heap[k]?=((w.setCell ⟨l,0,none⟩ v0).setCell ⟨l,1,none⟩ v1).heap[k]?:=Below.heap_setCell _ ⟨l,2,none⟩ _ k h
 have s3:((((w.setCell ⟨l,0,none⟩ v0).setCell ⟨l,1,none⟩ v1).setCell ⟨l,2,none⟩ v2).setCell ⟨l,3,none⟩ v3).heap[k]?=(((w.setCell ⟨l,0,none⟩ v0).setCell ⟨l,1,none⟩ v1).setCell ⟨l,2,none⟩ v2).heap[k]?:=Below.heap_setCell _ ⟨l,3,none⟩ _ k h
 have s4:(((((w.setCell ⟨l,0,none⟩ v0).setCell ⟨l,1,none⟩ v1).setCell ⟨l,2,none⟩ v2).setCell ⟨l,3,none⟩ v3).setCell ⟨l,4,none⟩ v4).heap[k]?=((((w.setCell ⟨l,0,none⟩ v0).setCell ⟨l,1,none⟩ v1).setCell ⟨l,2,none⟩ v2).setCell ⟨l,3,none⟩ v3).heap[k]?:=Below.heap_setCell _ ⟨l,4,none⟩ _ k h
 have s5:((((((w.setCell ⟨l,0,none⟩ v0).setCell ⟨l,1,none⟩ v1).setCell ⟨l,2,none⟩ v2).setCell ⟨l,3,none⟩ v3).setCell ⟨l,4,none⟩ v4).setCell ⟨l,5,none⟩ v5).heap[k]?=(((((w.setCell ⟨l,0,none⟩ v0).setCell ⟨l,1,none⟩ v1).setCell ⟨l,2,none⟩ v2).setCell ⟨l,3,none⟩ v3).setCell ⟨l,4,none⟩ v4).heap[k]?:=Below.heap_setCell _ ⟨l,5,none⟩ _ k h
 have s6:(((((((w.setCell ⟨l,0,none⟩ v0).setCell ⟨l,1,none⟩ v1).setCell ⟨l,2,none⟩ v2).setCell ⟨l,3,none⟩ v3).setCell ⟨l,4,none⟩ v4).setCell ⟨l,5,none⟩ v5).setCell ⟨l,6,none⟩ v6).heap[k]?=((((((w.setCell ⟨l,0,none⟩ v0).setCell ⟨l,1,none⟩ v1).setCell ⟨l,2,none⟩ v2).setCell ⟨l,3,none⟩ v3).setCell ⟨l,4,none⟩ v4).setCell ⟨l,5,none⟩ v5).heap[k]?:=Below.heap_setCell _ ⟨l,6,none⟩ _ k h
 rw [s6,s5,s4,s3,s2,s1,s0]
theorem set7_at (w:World) (l:Nat) (t:TypeId) (u0 u1 u2 u3 u4 u5 u6 v0 v1 v2 v3 v4 v5 v6:Value) (h:w.heap[l]?=some (.cells #[u0,u1,u2,u3,u4,u5,u6] t (0,0))):(((((((w.setCell ⟨l,0,none⟩ v0).setCell ⟨l,1,none⟩ v1).setCell ⟨l,2,none⟩ v2).setCell ⟨l,3,none⟩ v3).setCell ⟨l,4,none⟩ v4).setCell ⟨l,5,none⟩ v5).setCell ⟨l,6,none⟩ v6).heap[l]?=some (.cells #[v0,v1,v2,v3,v4,v5,v6] t (0,0)):=by
 have s0:(w.setCell ⟨l,0,none⟩ v0).heap[l]?=some (.cells #[v0,u1,u2,u3,u4,u5,u6] t (0,0)):=heap_setCell_same w l 0 #[u0,u1,u2,u3,u4,u5,u6] t v0 h
 have s1:((w.setCell ⟨l,0,none⟩ v0).setCell ⟨l,1,none⟩ v1).heap[l]?=some (.cells #[v0,v1,u2,u3,u4,u5,u6] t (0,0)):=heap_setCell_same (w.setCell ⟨l,0,none⟩ v0) l 1 #[v0,u1,u2,u3,u4,u5,u6] t v1 s0
 have s2:(((w.setCell ⟨l,0,none⟩ v0).setCell ⟨l,1,none⟩ v1).setCell ⟨l,2,none⟩ v2).heap[l]?=some (.cells #[v0,v1,v2,u3,u4,u5,u6] t (0,0)):=heap_setCell_same ((w.setCell ⟨l,0,none⟩ v0).setCell ⟨l,1,none⟩ v1) l 2 #[v0,v1,u2,u3,u4,u5,u6] t v2 s1
 have s3:((((w.setCell ⟨l,0,none⟩ v0).setCell ⟨l,1,none⟩ v1).setCell ⟨l,2,none⟩ v2).setCell ⟨l,3,none⟩ v3).heap[l]?=some (.cells #[v0,v1,v2,v3,u4,u5,u6] t (0,0)):=heap_setCell_same (((w.setCell ⟨l,0,none⟩ v0).setCell ⟨l,1,none⟩ v1).setCell ⟨l,2,none⟩ v2) l 3 #[v0,v1,v2,u3,u4,u5,u6] t v3 s2
 have s4:(((((w.setCell ⟨l,0,none⟩ v0).setCell ⟨l,1,none⟩ v1).setCell ⟨l,2,none⟩ v2).setCell ⟨l,3,none⟩ v3).setCell ⟨l,4,none⟩ v4).heap[l]?=some (.cells #[v0,v1,v2,v3,v4,u5,u6] t (0,0)):=heap_setCell_same ((((w.setCell ⟨l,0,none⟩ v0).setCell ⟨l,1,none⟩ v1).setCell ⟨l,2,none⟩ v2).setCell ⟨l,3,none⟩ v3) l 4 #[v0,v1,v2,v3,u4,u5,u6] t v4 s3
 have s5:((((((w.setCell ⟨l,0,none⟩ v0).setCell ⟨l,1,none⟩ v1).setCell ⟨l,2,none⟩ v2).setCell ⟨l,3,none⟩ v3).setCell ⟨l,4,none⟩ v4).setCell ⟨l,5,none⟩ v5).heap[l]?=some (.cells #[v0,v1,v2,v3,v4,v5,u6] t (0,0)):=heap_setCell_same (((((w.setCell ⟨l,0,none⟩ v0).setCell ⟨l,1,none⟩ v1).setCell ⟨l,2,none⟩ v2).setCell ⟨l,3,none⟩ v3).setCell ⟨l,4,none⟩ v4) l 5 #[v0,v1,v2,v3,v4,u5,u6] t v5 s4
 have s6:(((((((w.setCell ⟨l,0,none⟩ v0).setCell ⟨l,1,none⟩ v1).setCell ⟨l,2,none⟩ v2).setCell ⟨l,3,none⟩ v3).setCell ⟨l,4,none⟩ v4).setCell ⟨l,5,none⟩ v5).setCell ⟨l,6,none⟩ v6).heap[l]?=some (.cells #[v0,v1,v2,v3,v4,v5,v6] t (0,0)):=heap_setCell_same ((((((w.setCell ⟨l,0,none⟩ v0).setCell ⟨l,1,none⟩ v1).setCell ⟨l,2,none⟩ v2).setCell ⟨l,3,none⟩ v3).setCell ⟨l,4,none⟩ v4).setCell ⟨l,5,none⟩ v5) l 6 #[v0,v1,v2,v3,v4,v5,u6] t v6 s5
 exact s6
end SndA
end Go.Proofs.Yteghpophcnehgaa
namespace Go.Proofs.Yteghpophcnehgaa
open Go.RowKit ExprA
namespace ExprA
theorem wrap_same {x:Int} (h:-9223372036854775808≤x∧x≤9223372036854775807):wrap64 x=x:=by unfold wrap64; omega
def GoodE (T:List (Int × Int)):Prop:=∃ x b:Nat,x < 3∧b < 3∧(T=[(1,(b:Int))] ∨ T=[(2,(x:Int))] ∨ T=[(2,(x:Int)),(2,(x:Int)),(3,4)] ∨ T=[(2,(x:Int)),(1,(b:Int)),(3,5)] ∨ T=[(2,(x:Int)),(1,(b:Int)),(3,6)] ∨ T=[(1,(b:Int)),(1,1),(3,3)])
def MadeE (w w':World) (v:Value):Prop:=∃ (g:Nat) (T:List (Int × Int)),v=.slice (some ⟨g,0,none⟩) T.length T.length∧GoodE T∧w.heap.size≤g∧w'.heap[g]?=some (.cells (icells T).toArray 85 (0,0))
end ExprA
set_option maxRecDepth 100000 in
set_option maxHeartbeats 1600000 in
theorem opw_any (v:Int) (w:World):Calls Try.prog 61 #[.int .i64 v] w fun e w'=>e=.returned (.agg #[.int .i64 3,.int .i64 v])∧Below w.heap.size w w':=by
 go_enter Try.func61,Try.ntmps61
 go_wp2_with fail
 refine bodyPost_ret (v:=.agg #[.int .i64 3,.int .i64 v]) ?_ rfl ⟨rfl,(Below.refl _ _).alloc (Nat.le_refl _) _⟩
 exact results_cell_row rfl _ _ w.heap.size 85 #[.int .i64 3,.int .i64 v] (0,0) _ rfl (heap_alloc_new _ _) Try.underlying85 rfl (by kernel_rfl)
set_option maxRecDepth 100000 in
set_option maxHeartbeats 1600000 in
theorem regw_any (v:Int) (w:World):Calls Try.prog 60 #[.int .i64 v] w fun e w'=>e=.returned (.agg #[.int .i64 2,.int .i64 v])∧Below w.heap.size w w':=by
 go_enter Try.func60,Try.ntmps60
 go_wp2_with fail
 refine bodyPost_ret (v:=.agg #[.int .i64 2,.int .i64 v]) ?_ rfl ⟨rfl,(Below.refl _ _).alloc (Nat.le_refl _) _⟩
 exact results_cell_row rfl _ _ w.heap.size 85 #[.int .i64 2,.int .i64 v] (0,0) _ rfl (heap_alloc_new _ _) Try.underlying85 rfl (by kernel_rfl)
set_option maxRecDepth 100000 in
set_option maxHeartbeats 1600000 in
theorem numw_any (v:Int) (w:World):Calls Try.prog 41 #[.int .i64 v] w fun e w'=>e=.returned (.agg #[.int .i64 1,.int .i64 v])∧Below w.heap.size w w':=by
 go_enter Try.func41,Try.ntmps41
 go_wp2_with fail
 refine bodyPost_ret (v:=.agg #[.int .i64 1,.int .i64 v]) ?_ rfl ⟨rfl,(Below.refl _ _).alloc (Nat.le_refl _) _⟩
 exact results_cell_row rfl _ _ w.heap.size 85 #[.int .i64 1,.int .i64 v] (0,0) _ rfl (heap_alloc_new _ _) Try.underlying85 rfl (by kernel_rfl)
end Go.Proofs.Yteghpophcnehgaa
