/-
  PpoAny holds for every input: the call returns true and the arguments read afterwards as before. Conditions: none but what the row itself prints; the table math/bits.deBruijn64tab is tied to the program text.
-/
import Derived.Test.YthcnhbclagegeaaDoorCards
import Derived.Test.YthcnhbclagegeaaDoorTie
import Derived.Test.YthcnhbclagegeaaDoorMx
import Derived.Test.YthcnhbclagegeaaDoorMw
import Derived.Test.YthcnhbclagegeaaDoorMza
import Derived.Test.YthcnhbclagegeaaDoorRnZg
import Derived.ProofKit
import Derived.Deep.SlicePairs
import Derived.OpenShut
import Derived.Deep.DeepHandedRow
import Derived.Lib.LaidTab
namespace Go.Proofs.YthcnhbclagegeaaDoor.ppoAny
open Go.ChangeShapes Go.WideShapes Go.ChangeAt Go.RowKit RelA
section
variable {H:Type} {enc:TypeId × Value->H} {P:Program}
theorem Zt9 {f:Func} {s:ChangeSpec} {apart fresh handsOn again:Bool} {W W':World} {args:Array Value} {v:Value} {ds gs:List (DataW H)} {before pa pv:List MemPlace}
  (hW:DataW.Whole enc P f.params.toList s.vars apart W args.toList ds gs before)
  (hres:∀ (b:Nat) (sp:Nat->Bool) (hd:Bool),DataW.TrodAll enc P W' b sp hd f.resultTypes.toList (v.resultList f.resultTypes.size) (s.fn H (ds ++ gs)).results [])
  (hargs:∀ sp:Nat->Bool,(∀ p ∈ before,sp p.block=true)->DataW.TrodAll enc P W' 0 sp true f.params.toList args.toList (s.fn H (ds ++ gs)).args pa)
  (hvars:∀ sp:Nat->Bool,(∀ p ∈ before,sp p.block=true)->DataW.TrodVars enc P W' sp s.vars (s.fn H (ds ++ gs)).vars pv)
  (hps:before=pa ++ pv) (hb:Below W.heap.size W W')
  (hok:∀ (j:Nat) (t:TypeId) (r:Value),f.resultTypes[j]?=some t->(v.resultList f.resultTypes.size)[j]?=some r->Value.okWide P W' .any 0 t r) :
  s.post enc P f apart fresh handsOn again W args v W':=by
 have hlt:∀ p ∈ before,p.block < W.heap.size:=fun p hp=>hW.lt p hp
 have hold:∀ p ∈ before,(fun b=>decide (b < W.heap.size)) p.block=true:=fun p hp=>by simpa using hlt p hp
 refine ⟨ds,gs,before,[],pa,pv,hW,hres _ _ _,hargs _ hold,hvars _ hold,World.keptBut_mono (fun p hp=>⟨hp,?_⟩) (hb.frame (· ∈ before)),fun _=>?_⟩
 ·rw [hps,List.mem_append] at hp
  exact Or.inr hp
 ·obtain ⟨_,_,_,_,_,hz,hn⟩:=hW
  refine ⟨hok,_,_,([] ++ pa) ++ pv,⟨[] ++ pa,pv,trodAll_append (hargs _ (fun _ _=>rfl)) (hres _ _ _),hvars _ (fun _ _=>rfl),rfl,?_,?_⟩,?_⟩
  ·intro b off hp
   have hin:MemPlace.cell b off ∈ before:=by rw [hps]; simpa using hp
   rw [hb.frozen (hlt _ hin)]
   exact hz b off hin
  ·intro ha
   have:=hn ha
   rw [hps] at this
   simpa using this
  ·intro p hp _
   rw [hps]
   simpa using hp
end
theorem own:ownKnob Tryd.prog.godebug=none:=by kernel_rfl
theorem gTab:Tryd.prog.globalNamed Rows.ppoAnyRow.named.head! = some 0:=by kernel_rfl
theorem gTabType:(Tryd.prog.globals[0]?).map (·.type)=some 85:=by kernel_rfl
theorem Yoz:Tryd.prog.cellsOf 85=64:=by kernel_rfl
theorem Yvl:Tryd.prog.cellsOf 5=1:=by kernel_rfl
theorem Ymg:laidOutB Tryd.prog=true:=by kernel_rfl
def tabInts:List Int:=[0,1,56,2,57,49,28,3,61,58,42,50,38,29,17,4,62,47,59,36,45,43,51,22,53,39,33,30,24,18,12,5,63,55,48,27,60,41,37,16,46,35,44,21,52,32,23,11,54,26,40,15,34,20,31,10,25,14,19,9,13,8,7,6]
theorem Zvm {W:World} (h:laidMetH Tryd.prog Rows.ppoAnyRow.laid W):Lib.TabIs Tryd.prog W Rows.ppoAnyRow.named.head! .u8 tabInts:=
 Lib.tabIs_of_head (rest:=[]) gTab gTabType Tryd.underlying85 Tryd.underlying5 Yvl Yoz h
theorem Yst {W:World} (h:laidMetH Tryd.prog Rows.ppoAnyRow.laid W):Tab W:=by
 intro k hk
 have hl:k < tabInts.length:=hk
 rw [(Zvm h).cell gTab k hl]
 have e:tabInts=Lib.deBruijn64tab.map Int.ofNat:=by decide
 have hk2:k < Lib.deBruijn64tab.length:=hk
 rw [e,List.getD_eq_getElem?_getD,List.getD_eq_getElem?_getD,List.getElem?_map,List.getElem?_eq_getElem hk2]
 rfl
theorem Ygx:(List.range 64).map (fun j=>Rn.leafV (H:=Unit) Tryd.prog 4 85 Rows.laid_math_bits_deBruijn64tab j)=awP.kv.map some:=by kernel_rfl
theorem Yd7 {W:World} (h:laidMetH Tryd.prog Rows.ppoAnyRow.laid W):awP.KT W:=by
 have h0:laidMet Tryd.prog Rows.ppoAnyRow.laid W:=h
 obtain ⟨ps,⟨g',t',cs,fuel,p,q,hg',ht',hvar,hd,_,_⟩,_⟩:=h0
 obtain rfl:=Option.some.inj (gTab.symm.trans hg')
 obtain rfl:=Option.some.inj (gTabType.symm.trans ht')
 have hc:∀ (j:Nat) (v:Value),awP.kv[j]?=some v->W.cell? ⟨0,j,none⟩=some v:=by
  intro j v hj
  have hlt:j < 64:=by
   rcases Nat.lt_or_ge j 64 with r | r
   ·exact r
   ·rw [List.getElem?_eq_none (by rw [show awP.kv.length=64 by kernel_rfl]; exact r)] at hj; cases hj
  have h1:=congrArg (fun l=>l[j]?) Ygx
  simp only [List.getElem?_map,List.getElem?_range hlt,hj,Option.map_some] at h1
  have h2:=Rn.leafV_ok 4 fuel 85 _ j v cs.toList p (Option.some.inj h1) hd
  have h3:=World.var?_cell gTab hvar j
  rw [h3]; simpa using h2
 have hz:=hc 0 (.int .u8 0) (by kernel_rfl)
 unfold World.cell? at hz
 cases hh:W.heap[0]? with
 | none=>simp [hh] at hz
 | some o=>
  cases o with
  | cells C el fr=>
   refine ⟨C,el,fr,hh,fun j v hj=>?_⟩
   have h4:=hc j v hj
   simpa [World.cell?,hh] using h4
  | _=>simp [hh] at hz
set_option maxRecDepth 100000 in
theorem Ymh {W W':World} (h:awP.KT W) (hb:Below W.heap.size W W'):awP.KT W':=by
 obtain ⟨C,el,fr,h0,hv⟩:=h
 have hlt:0 < W.heap.size:=by
  rcases Nat.lt_or_ge 0 W.heap.size with r | r
  ·exact r
  ·rw [Array.getElem?_eq_none r] at h0; cases h0
 exact ⟨C,el,fr,by rw [hb.block 0 hlt]; exact h0,hv⟩
set_option maxRecDepth 100000 in
theorem Ye8 (H:Type) (enc:TypeId × Value->H) (W:World) (base:Nat) (args:Array Value) (ds gs:List (DataW H)) (before:List MemPlace)
  (hval:∀ (j:Nat) t v,Tryd.f7.params[j]?=some t->args[j]?=some v->Value.okWide Tryd.prog W .any base t v)
  (hW:DataW.Whole enc Tryd.prog Tryd.f7.params.toList Rows.ppoAnySpec.vars false W args.toList ds gs before) (hL:laidMetH Tryd.prog Rows.ppoAnyRow.laid W) :
  Calls Tryd.prog 7 args W fun e W'=>∃ v,e=.returned v/\Rows.ppoAnySpec.post enc Tryd.prog Tryd.f7 false true false false W args v W':=by
 have hW':=hW
 obtain ⟨p,q,hA0,hV,rfl,hfz,hnd⟩:=hW
 have hA:DataW.TrodAll enc Tryd.prog W 0 (fun _=>true) true Tryd.f7.params.toList args.toList ds p:=hA0
 rw [Tryd.params7] at hA hval
 obtain ⟨v0,vs0,d0,ds0,p0,q0,hargs0,rfl,rfl,h0,r0⟩:=trodAll_cons hA
 obtain ⟨rfl,rfl,rfl⟩:=trodAll_nil r0
 obtain rfl:args=#[v0]:=by cases args; simp_all
 obtain ⟨rfl,rfl⟩:=trodVars_none hV
 obtain ⟨g,rfl,hg,hec,hcc⟩:=Xao (hval 0 28 v0 rfl rfl) h0
 clear hA0 hargs0
 refine (Ydm g W hg hec hcc (Yst hL) (fun w' hb=>(awP.awake_ok w' (Ymh (Yd7 hL) hb)).mono fun e w'' h=>⟨h.1,h.2.below⟩)).mono fun e W' ⟨he,hb⟩=>?_
 subst he
 exact ⟨_,rfl,Zt9 (pv:=[]) hW' (fun _ _ _=>trodAll_cons_mk (shut_bool Tryd.underlying4 _) trodAll_mk0) (fun sp hsp=>trodAll_cons_mk (WideElems.Trod_stays Ymg (by kernel_rfl) (of_decide_eq_true (by kernel_rfl)) h0 (fun x hx=>hb.same (hW'.lt x (by simp [hx]))) (fun x hx=>hsp x (by simp [hx]))) trodAll_mk0) (fun _ _=>rfl) rfl hb (ok_one (by kernel_rfl) rfl (okWide_bool_mk Tryd.underlying4 _))⟩
noncomputable def Zkj (os:Os):World:=
 { World.holding Tryd.prog os ⟨#[],#[],[]⟩ with heap:=(World.holding Tryd.prog os ⟨#[],#[],[]⟩).heap.modify 0 fun
   | .cells _ t frozen=>.cells (tabInts.map fun n=>Value.int .u8 n).toArray t frozen
   | o=>o }
theorem Yd4 (os:Os):laidMet Tryd.prog Rows.ppoAnyRow.laid ((Zkj os).forCall (fun _ _=>0) ⟨#[],#[.agg #[.int .i64 0,.slice none 0 0,.slice none 0 0,.slice none 0 0,.slice none 0 0,.slice none 0 0,.slice none 0 0,.slice none 0 0]],[]⟩).memory:=
 laidMet_of_run' 8 (by kernel_rfl) (by kernel_rfl)
set_option maxRecDepth 100000 in
theorem Yy5 (os:Os) {H:Type} (enc:TypeId × Value->H):∃ Zle,DataW.whole enc Tryd.prog ((Zkj os).forCall (fun _ _=>0) ⟨#[],#[.agg #[.int .i64 0,.slice none 0 0,.slice none 0 0,.slice none 0 0,.slice none 0 0,.slice none 0 0,.slice none 0 0,.slice none 0 0]],[]⟩).memory Tryd.f7.params.toList Rows.ppoAnySpec.vars false #[Value.agg #[Value.int .i64 0,Value.slice none 0 0,Value.slice none 0 0,Value.slice none 0 0,Value.slice none 0 0,Value.slice none 0 0,Value.slice none 0 0,Value.slice none 0 0]].toList 8=some ([.agg [.lit (.int .i64 0),.nil,.nil,.nil,.nil,.nil,.nil,.nil]],[],Zle):=
 ⟨[],by kernel_rfl⟩
set_option maxRecDepth 100000 in
theorem Yt3 (os:Os) (started:os.Started) (H:Type) (enc:TypeId × Value->H) (F:Stop.Interp) :
  ReturnsInHanded {} Tryd.checked os 7 .any ((OpenSpec.ofChange Rows.ppoAnySpec).preRow enc Tryd.prog Tryd.f7 Rows.ppoAnyRow.domain false Rows.ppoAnyRow.laid) (((OpenSpec.ofChange Rows.ppoAnySpec).at F).post enc Tryd.prog Tryd.f7 false true false false):=by
 obtain ⟨Zle,hx⟩:=Yy5 os enc
 refine returnsInHanded_of_row (C:=Tryd.checked) (s:=OpenSpec.ofChange Rows.ppoAnySpec) own started (by kernel_rfl) Tryd.func7
  (witness_row_at (enc:=enc) (C:=Tryd.checked) false (Zkj os) #[.agg #[.int .i64 0,.slice none 0 0,.slice none 0 0,.slice none 0 0,.slice none 0 0,.slice none 0 0,.slice none 0 0,.slice none 0 0]] rfl (by kernel_rfl) (by kernel_rfl) (by kernel_rfl)
   (OpenSpec.preRow_of_cond 8 hx (by kernel_rfl) (fun k hk=>by cases hk) (by kernel_rfl) (Yd4 os))) ?_
 intro W base args ds gs before hval hW _ _ _ hL _ _
 exact Ye8 H enc W base args ds gs before hval hW hL
theorem said:Rows.PpoAnySaid:=
 OpenClaim.holds_of_cond 7 Tryd.f7 rfl rfl rfl rfl rfl rfl rfl ⟨rfl,rfl,rfl,rfl,rfl⟩ rfl rfl rfl rfl rfl (by kernel_rfl) Tryd.func7 (by kernel_rfl)
  (of_decide_eq_true (by kernel_rfl)) (by unfold Func.isWrapper; first | (rw [if_pos (by decide +kernel)]; kernel_rfl) | (rw [if_neg (by decide +kernel)]; exact ⟨rfl,rfl⟩))
  (fun os started H enc _ F=>by rw [OpenClaim.pre_eq_preRow]; exact Yt3 os started H enc F)
set_option maxRecDepth 100000 in
theorem plain (f:FuncId) (fn:Func) (hf:Tryd.pinned.checked.prog.funcNamed Rows.ppoAnyRow.func=some f) (hfn:Tryd.pinned.checked.prog.funcs[f]?=some fn) :
  false=Tryd.pinned.checked.prog.looks []/\∀ (j:Nat) t,fn.params[j]?=some t->Tryd.pinned.checked.prog.wantsStandIn t=false:=by
 obtain rfl:f=7:=Option.some.inj ((show Tryd.prog.funcNamed Rows.ppoAnyRow.func=some 7 by kernel_rfl).symm.trans hf) |>.symm
 obtain rfl:fn=Tryd.f7:=(Option.some.inj (Tryd.func7.symm.trans hfn)).symm
 refine ⟨by kernel_rfl,fun j t ht=>?_⟩
 rw [Tryd.params7] at ht
 have hm:=Array.mem_of_getElem? ht
 have hm2:t=28:=by simpa using hm
 subst hm2
 exact (show Tryd.prog.wantsStandIn 28=false by kernel_rfl)
theorem card:Rows.PpoAnyCardSaid:=
 Claim7.holds_tied_plain_at .later [] _ _ _ _ said (fun _ h=>by cases h) (by kernel_rfl) (fun _ h=>by cases h) ppoAny_row_tie rfl ⟨rfl,rfl⟩ (by kernel_rfl) rfl plain (by kernel_rfl)
end Go.Proofs.YthcnhbclagegeaaDoor.ppoAny
