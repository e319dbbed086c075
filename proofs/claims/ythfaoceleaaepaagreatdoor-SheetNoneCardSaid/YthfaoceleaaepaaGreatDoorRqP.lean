/-
  One text of a symbolic evaluator over the model, shown sound once for every program: no statement is claimed here.
-/
import Derived.Test.YthfaoceleaaepaaGreatDoorRqN
import Derived.WalkKit
import Derived.Lib.AppendZerosOnto
import Derived.Lib.Overlaps
import Derived.Laws.Externs
import Derived.Shelf.Spec.SlicesInsert
namespace Go.Rn
variable {P:Program}
theorem run_copy_es {ty rt e:TypeId} {es:Nat} (ht:P.underlying ty=some (.slice e)) (hs:szOf P e=some es) {W:World} {B o dl dc sl sc k:Nat} {A:Addr} {C:Array Value} {el:TypeId} {cs:List Value} (hk:Nat.min sl dl=k) (hh:W.heap[B]?=some (.cells C el (0,0)))
  (hl:cs.length=k * es) (hsrc:∀ (j:Nat) (u:Value),cs[j]?=some u→W.cell? (A.add j)=some u) (hfit:o + cs.length≤C.size) (hc:∀ v ∈ cs,Cell v) :
  (Builtin.copy_ #[ty,ty] rt #[.slice (some ⟨B,o,none⟩) dl dc,.slice (some A) sl sc]).run P W=.ok (.int .i64 k) (W.setRow B (laid C o cs)):=by
 have hfc:(Builtin.firstCells es (Nat.min sl dl) (.slice (some A) sl sc)).run P W=.ok cs.toArray W:=run_firstCells_some W es _ A sl sc cs (by rw [hl,hk]) hsrc
 rw [hk] at hfc
 have hlen:(Builtin.lenOf (.slice (some A) sl sc)).run P W=.ok sl W:=rfl
 have hst:=run_lay (P:=P) hh hfit hc
 have e1:Nat.min sl dl=k:=hk
 simp [Builtin.copy_,run_underlying ht,hlen,szOf_run hs,hfc,goInt,hst,e1]
def insT (P:Program) (te es:Nat):Bool:=match P.info? te with
 | some i=>match i.zero with | some z=>Nat.beq i.size es && (Nat.beq z.cells.size es && Nat.ble i.bytes 65536) | none=>false
 | none=>false
theorem insT_ok {te es:Nat} (h:insT P te es=true):∃ i z,P.info? te=some i∧i.zero=some z∧i.size=es∧z.cells.size=es∧i.bytes≤65536:=by
 unfold insT at h
 cases h1:P.info? te with
 | none=>rw [h1] at h; cases h
 | some i=>
  rw [h1] at h
  cases h2:i.zero with
  | none=>simp only [h2] at h; cases h
  | some z=>
   simp only [h2,Bool.and_eq_true] at h
   exact ⟨i,z,rfl,h2,beq_ok h.1,beq_ok h.2.1,ble_ok h.2.2⟩
theorem ins_room {C:Array Value} {O i m n c es:Nat} {o1 o2 vs:List Value} (hi:i < n) (hnm:n + m≤c) (hsz:O + c * es=C.size) (l1:o1.length=i * es) (l2:o2.length=(n - i) * es) (l3:vs.length=m * es)
  (c1:∀ (j:Nat) (u:Value),o1[j]?=some u→C[O + j]?=some u):O + (i + m) * es + o2.length≤C.size∧O + i * es + vs.length≤C.size∧(laid (laid C (O + (i + m) * es) o2) (O + i * es) vs).size=C.size ∧
  ∀ (j:Nat) (u:Value),(o1 ++ (vs ++ o2))[j]?=some u→(laid (laid C (O + (i + m) * es) o2) (O + i * es) vs)[O + j]?=some u:=by
 have e1:(i + m) * es=i * es + m * es:=Nat.add_mul _ _ _
 have e2:i * es + (n - i) * es=n * es:=by rw [← Nat.add_mul]; congr 1; omega
 have e3:(n + m) * es=n * es + m * es:=Nat.add_mul _ _ _
 have e4:(n + m) * es≤c * es:=Nat.mul_le_mul_right _ hnm
 have f1:O + (i + m) * es + o2.length≤C.size:=by omega
 have f2:O + i * es + vs.length≤(laid C (O + (i + m) * es) o2).size:=by rw [laid_size f1]; omega
 refine ⟨f1,by omega,by rw [laid_size f2,laid_size f1],fun j u hj=>?_⟩
 rcases Nat.lt_or_ge j o1.length with p | p
 ·rw [List.getElem?_append_left p] at hj
  rw [laid_out f2 (.inl (by omega)),laid_out f1 (.inl (by omega))]
  exact c1 j u hj
 rw [List.getElem?_append_right p] at hj
 rcases Nat.lt_or_ge (j - o1.length) vs.length with q | q
 ·rw [List.getElem?_append_left q] at hj
  have:=laid_in f2 hj
  rwa [show O + i * es + (j - o1.length)=O + j by omega] at this
 ·rw [List.getElem?_append_right q] at hj
  have h3:j - o1.length - vs.length < o2.length:=by
   rcases Nat.lt_or_ge (j - o1.length - vs.length) o2.length with r | r
   ·exact r
   ·rw [List.getElem?_eq_none r] at hj; cases hj
  rw [laid_out f2 (.inr (by omega))]
  have:=laid_in f1 hj
  rwa [show O + (i + m) * es + (j - o1.length - vs.length)=O + j by omega] at this
theorem ins_grow {R:Array Value} {i m n G es:Nat} {o1 o2 vs:List Value} (hi:i < n) (hnm:n + m≤G) (hsz:R.size=G * es) (l1:o1.length=i * es) (l2:o2.length=(n - i) * es) (l3:vs.length=m * es)
  (c1:∀ (j:Nat) (u:Value),o1[j]?=some u→R[j]?=some u):i * es + vs.length≤R.size∧(i + m) * es + o2.length≤(laid R (i * es) vs).size∧(laid (laid R (i * es) vs) ((i + m) * es) o2).size=G * es ∧
  ∀ (j:Nat) (u:Value),(o1 ++ (vs ++ o2))[j]?=some u→(laid (laid R (i * es) vs) ((i + m) * es) o2)[0 + j]?=some u:=by
 have e1:(i + m) * es=i * es + m * es:=Nat.add_mul _ _ _
 have e2:i * es + (n - i) * es=n * es:=by rw [← Nat.add_mul]; congr 1; omega
 have e3:(n + m) * es=n * es + m * es:=Nat.add_mul _ _ _
 have e4:(n + m) * es≤G * es:=Nat.mul_le_mul_right _ hnm
 have f1:i * es + vs.length≤R.size:=by omega
 have f2:(i + m) * es + o2.length≤(laid R (i * es) vs).size:=by rw [laid_size f1]; omega
 refine ⟨f1,f2,by rw [laid_size f2,laid_size f1,hsz],fun j u hj=>?_⟩
 rw [Nat.zero_add]
 rcases Nat.lt_or_ge j o1.length with p | p
 ·rw [List.getElem?_append_left p] at hj
  rw [laid_out f2 (.inl (by omega)),laid_out f1 (.inl (by omega))]
  exact c1 j u hj
 rw [List.getElem?_append_right p] at hj
 rcases Nat.lt_or_ge (j - o1.length) vs.length with q | q
 ·rw [List.getElem?_append_left q] at hj
  rw [laid_out f2 (.inl (by omega))]
  have:=laid_in f1 hj
  rwa [show i * es + (j - o1.length)=j by omega] at this
 ·rw [List.getElem?_append_right q] at hj
  have:=laid_in f2 hj
  rwa [show (i + m) * es + (j - o1.length - vs.length)=j by omega] at this
theorem insC_of {f es te:Nat} (hk:known P f=true) (h0:0 < es) (h1:es < 1048576)
  (hroom:∀ (w:World) (B O n c i Bv Ov m vc:Nat) (C Cv:Array Value) (el elv:TypeId) (o2 vs:List Value),w.heap[B]?=some (.cells C el (0,0))→w.heap[Bv]?=some (.cells Cv elv (0,0))→B ≠ Bv→O + c * es=C.size→n + m≤c→i < n→0 < m→n≤65536→m≤65536 →
   o2.length=(n - i) * es→vs.length=m * es→(∀ (j:Nat) (u:Value),o2[j]?=some u→C[O + i * es + j]?=some u)→(∀ (j:Nat) (u:Value),vs[j]?=some u→Cv[Ov + j]?=some u)→(∀ x ∈ o2,Cell x)→(∀ x ∈ vs,Cell x) →
   Calls P f #[.slice (some ⟨B,O,none⟩) n c,.int .i64 i,.slice (some ⟨Bv,Ov,none⟩) m vc] w fun e w'=>e=.returned (.slice (some ⟨B,O,none⟩) (n + m) c)∧w'=(w.drew.setRow B (laid C (O + (i + m) * es) o2)).setRow B (laid (laid C (O + (i + m) * es) o2) (O + i * es) vs))
  (hgrow:∀ (w:World) (B O n c i Bv Ov m vc:Nat) (C Cv:Array Value) (el elv:TypeId) (o1 o2 vs:List Value),w.heap[B]?=some (.cells C el (0,0))→w.heap[Bv]?=some (.cells Cv elv (0,0))→B ≠ Bv→O + c * es=C.size→n≤c→c < n + m→i < n→0 < m→n≤65536→m≤65536 →
   o1.length=i * es→o2.length=(n - i) * es→vs.length=m * es→(∀ (j:Nat) (u:Value),o1[j]?=some u→C[O + j]?=some u)→(∀ (j:Nat) (u:Value),o2[j]?=some u→C[O + i * es + j]?=some u)→(∀ (j:Nat) (u:Value),vs[j]?=some u→Cv[Ov + j]?=some u)→(∀ x ∈ o2,Cell x)→(∀ x ∈ vs,Cell x) →
   Calls P f #[.slice (some ⟨B,O,none⟩) n c,.int .i64 i,.slice (some ⟨Bv,Ov,none⟩) m vc] w fun e w'=>∃ (R:Array Value) (G:Nat),n + m≤G∧R.size=G * es∧(∀ (j:Nat) (u:Value),o1[j]?=some u→R[j]?=some u)∧e=.returned (.slice (some ⟨w.heap.size,0,none⟩) (n + m) G) ∧
    w'=(((w.drew.alloc (.cells R te (0,0))).setRow w.heap.size (laid R (i * es) vs)).drew).setRow w.heap.size (laid (laid R (i * es) vs) ((i + m) * es) o2)):InsC P f es:=by
 refine ⟨hk,h0,h1,fun w B O n c i Bv Ov m vc C Cv el elv o1 o2 vs hB hBv hne hsz hnc hi hm hn6 hm6 l1 l2 l3 c1 c2 c3 hcell=>?_⟩
 have hc2:∀ x ∈ o2,Cell x:=fun x hx=>hcell x (by simp [hx])
 have hc3:∀ x ∈ vs,Cell x:=fun x hx=>hcell x (by simp [hx])
 by_cases hr:n + m≤c
 ·refine (hroom w B O n c i Bv Ov m vc C Cv el elv o2 vs hB hBv hne hsz hr hi hm hn6 hm6 l2 l3 c2 c3 hc2 hc3).mono ?_
  rintro e w' ⟨rfl,rfl⟩
  obtain ⟨f1,f2,f3,f4⟩:=ins_room hi hr hsz l1 l2 l3 c1
  have hB1:(w.drew.setRow B (laid C (O + (i + m) * es) o2)).heap[B]?=some (.cells (laid C (O + (i + m) * es) o2) el (0,0)):=setRow_heap w.drew B C _ el (0,0) hB
  refine ⟨B,O,c,_,el,rfl,hr,by rw [f3]; exact hsz,setRow_heap _ B _ _ el (0,0) hB1,.inl rfl,f4,rfl,rfl,rfl,by simp,fun k hk hkB=>?_⟩
  exact (setRow_other _ B k _ hkB).trans (setRow_other w.drew B k _ hkB)
 ·refine (hgrow w B O n c i Bv Ov m vc C Cv el elv o1 o2 vs hB hBv hne hsz hnc (by omega) hi hm hn6 hm6 l1 l2 l3 c1 c2 c3 hc2 hc3).mono ?_
  rintro e w' ⟨R,G,hG,hR,r1,rfl,rfl⟩
  obtain ⟨f1,f2,f3,f4⟩:=ins_grow hi hG hR l1 l2 l3 r1
  have hN:(w.drew.alloc (.cells R te (0,0))).heap[w.heap.size]?=some (.cells R te (0,0)):=by
   show (w.heap.push (.cells R te (0,0)))[w.heap.size]?=_
   simp
  have hB1:=setRow_heap _ w.heap.size R (laid R (i * es) vs) te (0,0) hN
  refine ⟨w.heap.size,0,G,_,te,rfl,hG,by rw [f3,Nat.zero_add],setRow_heap _ w.heap.size _ _ te (0,0) hB1,.inr (Nat.le_refl _),f4,rfl,rfl,rfl,by simp,fun k hk _=>?_⟩
  refine (setRow_other _ w.heap.size k _ (by omega)).trans ((setRow_other _ w.heap.size k _ (by omega)).trans ?_)
  exact RowKit.Below.heap_alloc _ _ _ hk
end Go.Rn
