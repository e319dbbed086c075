/-
  MemFinal holds for every input: the call returns true and the arguments read afterwards as before. Conditions: none but what the row itself prints.
-/
import Derived.Test.YteghpophcnehgaaMzq
import Derived.Test.YteghpophcnehgaaMzw
import Derived.Test.YteghpophcnehgaaRows
import Derived.WalkKit
import Derived.ProofKit
import Derived.OpenShut
import Derived.Deep.SlicePairs
import Derived.Deep.DeepHandedRow
namespace Go.Proofs.Yteghpophcnehgaa.memFinal
open Go.ChangeShapes Go.WideShapes Go.ChangeAt Go.RowKit ExprA SndA
theorem cellsI:Try.prog.cellsOf 3=1:=by kernel_rfl
theorem none_cell {W:World} {b o s:Nat} {x:Value} (h:W.cell? ((⟨b,o,some s⟩:Addr).add 0)=some x):False:=by
 unfold Addr.add at h
 simp [World.cell?] at h
 split at h <;> simp_all
theorem add_plain (b o k:Nat):(⟨b,o,none⟩:Addr).add k=⟨b,o + k,none⟩:=by unfold Addr.add; split <;> simp_all
theorem pick_lt {α:Type} (z:α) {len:Nat} {P:Nat→α→Prop} (h:∀ i,i < len→∃ a,P i a):∃ q:Nat→α,∀ i,i < len→P i (q i):=
 ⟨fun i=>if hi:i < len then Classical.choose (h i hi) else z,fun i hi=>by simp only [dif_pos hi]; exact Classical.choose_spec (h i hi)⟩
section
variable {H:Type} {enc:TypeId × Value→H} {W:World} {n:Nat} {v:Value} {y:DataW H × List MemPlace}
theorem ints_of (h:DataW.trod enc Try.prog W 0 (fun _=>true) true n 22 [v]=some y):∃ (a:Option Addr) (L:List Int) (c:Nat),v=.slice a L.length c∧NIn W a L∧L.length≤maxLen∧(a=none→L=[]∧c=0):=by
 rcases Go.Deep.open_slice Try.underlying22 h with ⟨hcs,_⟩ | ⟨a,len,cap,m,k,D,Pl,hcs,_,hl,hcm,hmm,_,hx⟩
 ·obtain rfl:v=.slice none 0 0:=by simpa using hcs
  exact ⟨none,[],0,rfl,.inl rfl,Nat.zero_le _,fun _=>⟨rfl,rfl⟩⟩
 ·obtain rfl:v=.slice (some a) len cap:=by simpa using hcs
  simp only [if_true] at hmm
  subst hmm
  rw [cellsI] at hx
  by_cases h0:len=0
  ·subst h0
   exact ⟨some a,[],m,rfl,.inl rfl,Nat.zero_le _,fun h=>by cases h⟩
  ·have each:∀ i,i < len→∃ z,W.cell? (a.add i)=some (.int .i64 z):=fun i hi=>by
    obtain ⟨cs',h1,h2⟩:=hx i (by omega)
    obtain ⟨_,hlen,hcell⟩:=World.cells?_some h1
    obtain ⟨z,rfl,_,_⟩:=DataW.trod_int Try.underlying3 h2
    have e:=hcell 0 (by omega)
    rw [Go.Deep.add_add,Nat.mul_one,Nat.add_zero] at e
    exact ⟨z,e⟩
   clear hx
   obtain ⟨b,o,sp⟩:=a
   cases sp with
   | some s=>
    obtain ⟨z,e⟩:=each 0 (by omega)
    exact (none_cell e).elim
   | none=>
    simp only [add_plain] at each
    have hlt:b < W.heap.size:=by
     obtain ⟨z,e⟩:=each 0 (by omega)
     exact World.block_lt_of_cell? _ _ e
    obtain ⟨q,hq⟩:=pick_lt (0:Int) each
    refine ⟨some ⟨b,o,none⟩,(List.range len).map q,m,by simp,.inr ⟨b,o,rfl,hlt,fun i hi=>?_⟩,by simp; omega,fun h=>by cases h⟩
    have hi2:i < len:=by simpa using hi
    rw [hq i hi2]
    simp [List.getD_eq_getElem?_getD,List.getElem?_range hi2]
end
theorem own:ownKnob Try.prog.godebug=none:=by kernel_rfl
theorem laidOut:laidOutB Try.prog=true:=by kernel_rfl
section
variable {H:Type} {enc:TypeId × Value→H} {P:Program}
theorem post_below {f:Func} {s:ChangeSpec} {apart fresh handsOn again:Bool} {W W':World} {args:Array Value} {v:Value} {ds gs:List (DataW H)} {before pa pv:List MemPlace}
  (hW:DataW.Whole enc P f.params.toList s.vars apart W args.toList ds gs before)
  (hres:∀ (b:Nat) (sp:Nat→Bool) (hd:Bool),DataW.TrodAll enc P W' b sp hd f.resultTypes.toList (v.resultList f.resultTypes.size) (s.fn H (ds ++ gs)).results [])
  (hargs:∀ sp:Nat→Bool,(∀ p ∈ before,sp p.block=true)→DataW.TrodAll enc P W' 0 sp true f.params.toList args.toList (s.fn H (ds ++ gs)).args pa)
  (hvars:∀ sp:Nat→Bool,(∀ p ∈ before,sp p.block=true)→DataW.TrodVars enc P W' sp s.vars (s.fn H (ds ++ gs)).vars pv)
  (hps:before=pa ++ pv) (hb:Below W.heap.size W W')
  (hok:∀ (j:Nat) (t:TypeId) (r:Value),f.resultTypes[j]?=some t→(v.resultList f.resultTypes.size)[j]?=some r→Value.okWide P W' .any 0 t r) :
  s.post enc P f apart fresh handsOn again W args v W':=by
 have hlt:∀ p ∈ before,p.block < W.heap.size:=fun p hp=>hW.lt p hp
 have hold:∀ p ∈ before,(fun b=>decide (b < W.heap.size)) p.block=true:=fun p hp=>by simpa using hlt p hp
 refine ⟨ds,gs,before,[],pa,pv,hW,hres _ _ _,hargs _ hold,hvars _ hold,World.keptBut_mono (fun p hp=>⟨hp,?_⟩) (hb.frame (· ∈ before)),fun _=>?_⟩
 ·rw [hps,List.mem_append] at hp
  exact Or.inr hp
 ·obtain ⟨_,_,_,_,_,hz,hn⟩:=hW
  refine ⟨hok,_,_,([] ++ pa) ++ pv,⟨[] ++ pa,pv,trodAll_append (hargs _ (fun _ _=>rfl)) (hres _ _ _),hvars _ (fun _ _=>rfl),rfl,?_,?_⟩,?_⟩
  ·intro b off hp
   have hin:MemPlace.cell b off ∈ before:=by rw [hps]; simpa using hp
   rw [hb.frozen (hlt _ hin)]
   exact hz b off hin
  ·intro ha
   have:=hn ha
   rw [hps] at this
   simpa using this
  ·intro p hp _
   rw [hps]
   simpa using hp
end
set_option maxRecDepth 100000 in
theorem lifted (os:Os) (started:os.Started) (H:Type) (enc:TypeId × Value→H) :
  ReturnsInHanded {} Try.checked os 3 .any (Rows.memFinalSpec.pre6 enc Try.prog Try.f3 Rows.memFinalRow.domain false) (Rows.memFinalSpec.post enc Try.prog Try.f3 false true false false):=by
 refine returnsInHanded_of_change (C:=Try.checked) own started (by kernel_rfl) Try.func3
  (ChangeSpec.witness6 (enc:=enc) (C:=Try.checked) false ⟨#[],#[.slice none 0 0,.int .i64 0],[]⟩ 8 (by kernel_rfl) (by kernel_rfl) (by kernel_rfl) (by kernel_rfl)) ?_
 intro W base args ds gs before hval0 hW hcnd _
 have hval:∀ (j:Nat) t v,Try.f3.params[j]?=some t→args[j]?=some v→Value.okWide Try.prog W .any base t v:=hval0
 have hW':=hW
 obtain ⟨p,q,hA0,hV,rfl,hfz,hnd⟩:=hW
 have hA:DataW.TrodAll enc Try.prog W 0 (fun _=>true) true Try.f3.params.toList args.toList ds p:=hA0
 rw [Try.params3] at hA hval
 obtain ⟨v0,vs0,d0,ds0,p0,q0,hargs0,rfl,rfl,h0,r0⟩:=trodAll_cons hA
 obtain ⟨v1,vs1,d1,ds1,p1,q1,hargs1,rfl,rfl,h1,r1⟩:=trodAll_cons r0
 obtain ⟨rfl,rfl,rfl⟩:=trodAll_nil r1
 subst hargs1
 obtain rfl:args=#[v0,v1]:=by cases args; simp_all
 obtain ⟨rfl,rfl⟩:=trodVars_none hV
 obtain ⟨a0,n0,c0,rfl⟩:=okWide_slice Try.underlying22 (hval 0 22 v0 rfl rfl)
 have h0':=h0
 obtain ⟨m0,t0⟩:=h0'
 obtain ⟨b0,C0,e0,w0,g0,k0,z0⟩:=ints_of t0
 injection w0 with w0a w0b w0c
 subst w0a w0b w0c
 obtain ⟨x1,rfl,rfl,rfl,wf1⟩:=open_int Try.underlying3 (hval 1 3 v1 rfl rfl) h1
 clear hA0 hargs0 hval0
 refine (mfl_any awake_ok a0 C0 c0 x1 W g0 (by unfold maxLen at k0; omega)).mono fun e W' ⟨he,hg⟩=>?_
 subst he
 exact ⟨_,rfl,post_below (pv:=[]) hW' (fun _ _ _=>trodAll_cons_mk (shut_bool Try.underlying4 _) trodAll_mk0) (fun sp hsp=>trodAll_cons_mk (WideElems.Trod_stays laidOut (by kernel_rfl) (of_decide_eq_true (by kernel_rfl)) h0 (fun x hx=>hg.same (hW'.lt x (by simp [hx]))) (fun x hx=>hsp x (by simp [hx]))) (trodAll_cons_mk (shut_int Try.underlying3 wf1) trodAll_mk0)) (fun _ _=>rfl) rfl hg (ok_one (by kernel_rfl) rfl (okWide_bool_mk Try.underlying4 _))⟩
theorem over:Rows.memFinalRow.holds Try.pinned (OpenSpec.ofChange Rows.memFinalSpec):=
 OpenClaim.holds_of_wide 3 Try.f3 rfl rfl rfl rfl rfl rfl rfl ⟨rfl,rfl,rfl,rfl,rfl⟩ rfl rfl rfl rfl rfl (by kernel_rfl) Try.func3 (by kernel_rfl)
  (of_decide_eq_true (by kernel_rfl)) (by unfold Func.isWrapper; first | (rw [if_pos (by decide +kernel)]; kernel_rfl) | (rw [if_neg (by decide +kernel)]; exact ⟨rfl,rfl⟩))
  (fun os started H enc _=>lifted os started H enc)
theorem proved:Rows.MemFinalSaid:=
 over
end Go.Proofs.Yteghpophcnehgaa.memFinal
