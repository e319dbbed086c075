/-
  What the runner is told of strings.FieldsFunc at blanks: the words of the lines that the sheets of these laws have.
-/
import Derived.Test.YthfaoceleaaepaaGreatDoorShJ
import Derived.Test.YthfaoceleaaepaaGreatDoorShelf
namespace Go.Proofs.YthfaoceleaaepaaGreatDoor.sh
open Go.Rn Go.RowKit
def lines:List (List Nat × List (List Nat)):=[
 ([112,32,108,111,99,115,95,50,59,116,104,114,101,97,100,59,115,116,111,114,101,95,120,95,114,108,120,95,49,59,115,116,111,114,101,95,121,95,114,108,120,95,49],[[112],[108,111,99,115,95,50,59,116,104,114,101,97,100,59,115,116,111,114,101,95,120,95,114,108,120,95,49,59,115,116,111,114,101,95,121,95,114,108,120,95,49]]),
 ([113,32,108,111,99,115,95,50,59,116,104,114,101,97,100,59,115,116,111,114,101,95,121,95,114,108,120,95,49,59,115,116,111,114,101,95,120,95,114,108,120,95,49],[[113],[108,111,99,115,95,50,59,116,104,114,101,97,100,59,115,116,111,114,101,95,121,95,114,108,120,95,49,59,115,116,111,114,101,95,120,95,114,108,120,95,49]]),
 ([99,101,114,116,32,115,119,97,112,95,48,95,48,95,114,108,120],[[99,101,114,116],[115,119,97,112,95,48,95,48,95,114,108,120]]),
 ([99,101,114,116,32,115,119,97,112,95,48,95,48,95,114,108,120,59,115,119,97,112,95,48,95,48,95,114,108,120],[[99,101,114,116],[115,119,97,112,95,48,95,48,95,114,108,120,59,115,119,97,112,95,48,95,48,95,114,108,120]]),
 ([99,101,114,116,32,115,119,97,112,95,48,95,49,95,114,108,120],[[99,101,114,116],[115,119,97,112,95,48,95,49,95,114,108,120]]),
 ([99,101,114,116,32,109,101,114,103,101,95,48,95,48,95,114,108,120],[[99,101,114,116],[109,101,114,103,101,95,48,95,48,95,114,108,120]]),
 ([99,101,114,116],[[99,101,114,116]]),
 ([99,101,114,116,32,115,119,97,112,95,48,95,48,95,114,108,120,59,105,110,115,101,114,116,95,48,95,48,95,115,99],[[99,101,114,116],[115,119,97,112,95,48,95,48,95,114,108,120,59,105,110,115,101,114,116,95,48,95,48,95,115,99]]),
 ([99,101,114,116,32,104,111,112],[[99,101,114,116],[104,111,112]]),
 ([99,104,101,99,107],[[99,104,101,99,107]]),
 ([99,111,100,101,32,113],[[99,111,100,101],[113]]),
 ([104,111,112],[[104,111,112]]),
 ([105,109,109],[[105,109,109]]),
 ([112,111,119,101,114],[[112,111,119,101,114]]),
 ([99,111,100,101],[[99,111,100,101]]),
 ([111,112,116],[[111,112,116]]),
 ([105,109,109,32,113],[[105,109,109],[113]]),
 ([112,111,119,101,114,32,113],[[112,111,119,101,114],[113]]),
 ([112,32,108,111,99,115,95,49,59,116,104,114,101,97,100,59,115,116,111,114,101,95,120,95,114,108,120,95,50],[[112],[108,111,99,115,95,49,59,116,104,114,101,97,100,59,115,116,111,114,101,95,120,95,114,108,120,95,50]]),
 ([112,32,104,111,112],[[112],[104,111,112]]),
 ([113,32,108,111,99,115,95,57],[[113],[108,111,99,115,95,57]])]
def strB (l:List Nat):ByteArray:=⟨(l.map UInt8.ofNat).toArray⟩
def blank (r:Nat):Bool:=r == 32
def lineOk (e:List Nat × List (List Nat)):Bool:=(Lib.goFieldsP blank (strB e.1)).map (·.data.toList.map (·.toNat)) == e.2
theorem linesOk:lines.all lineOk=true:=by kernel_rfl
def bytesOk (e:List Nat × List (List Nat)):Bool:=e.2.all fun l=>l.all fun x=>Nat.blt x 256
theorem linesB:lines.all bytesOk=true:=by kernel_rfl
def shortOk (e:List Nat × List (List Nat)):Bool:=Nat.ble e.1.length 1000
theorem linesL:lines.all shortOk=true:=by kernel_rfl
theorem strB_eq (s:ByteArray) (l:List Nat) (h:s.data.toList.map (·.toNat)=l):s=strB l:=by
 subst h
 apply ByteArray.ext
 apply Array.toList_inj.1
 show _=(List.map UInt8.ofNat (List.map (·.toNat) s.data.toList))
 rw [List.map_map]
 conv=>lhs; rw [← List.map_id s.data.toList]
 apply List.map_congr_left
 intro x _
 exact (UInt8.ofNat_toNat).symm
theorem words_of {e:List Nat × List (List Nat)} (he:e ∈ lines):Lib.goFieldsP blank (strB e.1)=e.2.map strB∧∀ l ∈ e.2,∀ x ∈ l,x < 256:=by
 have h1:=List.all_eq_true.1 linesOk e he
 have h2:=List.all_eq_true.1 linesB e he
 constructor
 ·have h3:(Lib.goFieldsP blank (strB e.1)).map (fun s=>s.data.toList.map (·.toNat))=e.2:=by simpa [lineOk] using h1
  rw [← h3,List.map_map]
  conv=>lhs; rw [← List.map_id (Lib.goFieldsP blank (strB e.1))]
  apply List.map_congr_left
  intro s _
  exact strB_eq s _ rfl
 ·intro l hl x hx
  have:=List.all_eq_true.1 (List.all_eq_true.1 h2 l hl) x hx
  exact Nat.le_of_ble_eq_true this
set_option maxRecDepth 100000 in
theorem blank_any (w:World):PredAtRunes Tryz.prog 13 #[] blank w:=fun W x hx _=>by
 show Calls Tryz.prog 13 #[.int .i32 (x:Int)] W _
 have e:((x:Int) == 32)=blank x:=by
  unfold blank
  by_cases h:x=32
  ·subst h; rfl
  ·have h2:¬ (x:Int)=32:=by omega
   rw [beq_eq_false_iff_ne.2 h2,beq_eq_false_iff_ne.2 h]
 go_enter Tryz.func13,Tryz.ntmps13
 go_wp2
 go_ret
 refine ⟨?_,0,rfl⟩
 rw [← e]
 rfl
noncomputable def chS (ws:List (List Nat)):RV:=@List.rec (List Nat) (fun _=>RV) .nil (fun w _ ih=>.cons (.s w) ih) ws
noncomputable def lookL (l:List Nat) (t:List (List Nat × List (List Nat))):Option RV:=@List.rec (List Nat × List (List Nat)) (fun _=>Option RV) none (fun e _ ih=>bf (eqL l e.1) (some (chS e.2)) ih) t
noncomputable def rowF:RV→Option RV:=fun c=>gN none c none fun x r=>gN none r none fun y q=>gN none q (gS none x fun l=>gF none y fun f cs=>bf (Nat.beq f 13) (gN none cs (lookL l lines) fun _ _=>none) none) fun _ _=>none
theorem eqL_yes {a b:List Nat} (h:eqL a b=true):a=b:=by rw [eqL_ok] at h; exact eq_of_beq h
theorem lookL_ok:∀ {t:List (List Nat × List (List Nat))} {l:List Nat} {ch:RV},lookL l t=some ch→∃ e ∈ t,l=e.1∧ch=chS e.2
 | [],_,_,h=>by cases h
 | e::t,l,ch,h=>by
  have h':bf (eqL l e.1) (some (chS e.2)) (lookL l t)=some ch:=h
  cases hq:eqL l e.1 with
  | true=>
   rw [hq] at h'
   cases h'
   exact ⟨e,List.mem_cons_self,eqL_yes hq,rfl⟩
  | false=>
   rw [hq] at h'
   obtain ⟨e2,h1,h2⟩:=lookL_ok (t:=t) h'
   exact ⟨e2,List.mem_cons_of_mem _ h1,h2⟩
theorem chS_len:∀ ws,chLen (chS ws)=some ws.length
 | []=>rfl
 | w::ws=>by
  show gO none (chLen (chS ws)) (fun n=>some (Nat.succ n))=_
  rw [chS_len ws]
  rfl
variable {ρ:Nat→Int}
theorem chS_den (m:Mp):∀ ws:List (List Nat),(∀ l ∈ ws,∀ x ∈ l,x < 256)→denC ρ m (chS ws) (ws.map fun l=>Value.string (strB l))
 | [],_=>denC_nil.2 rfl
 | w::ws,h=>denC_cons.2 ⟨_,_,rfl,⟨rfl,h w List.mem_cons_self⟩,chS_den m ws fun l hl=>h l (List.mem_cons_of_mem _ hl)⟩
theorem knownF:known Tryz.prog 12=true:=by kernel_rfl
theorem enter13 (args:Array Value) (w:World):(callFunc 13 args).run Tryz.prog w=.ok (.enter 13 args) w:=Go.MuLone.run_callFunc_enter Tryz.func13 (by kernel_rfl) rfl args w
theorem row_ok (c ch:RV) (h:rowF c=some ch):RowC Tryz.prog ρ 12 c ch:=by
 intro m w vs hd
 unfold rowF at h
 rcases gN_ok h (by simp) with ⟨_,h3⟩ | ⟨x,r,rfl,h3⟩
 ·cases h3
 rcases gN_ok h3 (by simp) with ⟨_,h4⟩ | ⟨y,q,rfl,h4⟩
 ·cases h4
 rcases gN_ok h4 (by simp) with ⟨rfl,h5⟩ | ⟨_,_,_,h5⟩
 ·obtain ⟨l,rfl,h6⟩:=gS_ok h5 (by simp)
  obtain ⟨f,cs,rfl,h7⟩:=gF_ok h6 (by simp)
  obtain ⟨h8,h9⟩:=bf_ok h7 (by simp)
  obtain rfl:=beq_ok h8
  rcases gN_ok h9 (by simp) with ⟨rfl,h10⟩ | ⟨_,_,_,h10⟩
  ·obtain ⟨e,he,rfl,rfl⟩:=lookL_ok h10
   obtain ⟨hw,hb⟩:=words_of he
   obtain ⟨u,us,rfl,q1,q2⟩:=denC_cons.1 hd
   obtain ⟨u2,us2,rfl,q3,q4⟩:=denC_cons.1 q2
   have:=denC_nil.1 q4
   subst this
   have e1:u=.string (strB e.1)∧∀ x ∈ e.1,x < 256:=q1
   obtain ⟨rfl,e2⟩:=e1
   obtain ⟨cs,q5,rfl⟩:=q3
   have q6:cs=[]:=denC_nil.1 q5
   subst q6
   have hs:(strB e.1).size≤4294967296:=by
    have:=List.all_eq_true.1 linesL e he
    have h2:=Nat.le_of_ble_eq_true this
    show ((e.1.map UInt8.ofNat).toArray).size≤_
    rw [List.size_toArray,List.length_map]
    omega
   refine (Tryz.strings_FieldsFunc_runes 13 #[] enter13 blank (strB e.1) w hs (blank_any w)).mono ?_
   rintro _ w' ⟨A,rfl,hA,⟨o1,o2⟩,hB⟩
   rw [hw] at o1 o2 ⊢
   rcases o2 with ⟨o2,_⟩ | ⟨g,cap,cur,o2,_,o4,_,_,o7,o8⟩
   ·cases o2
   ·cases o2
    simp only [List.length_map,Nat.mul_one] at o1 o7 o8 ⊢
    have hc:cur.toList=e.2.map (fun l=>Value.string (strB l)):=by
     rw [List.map_map] at o8
     rw [← List.take_of_length_le (l:=cur.toList) (i:=e.2.length) (by rw [Array.length_toList,o7]; exact Nat.le_refl _)]
     exact o8
    refine ⟨_,cur,_,e.2.map (fun l=>Value.string (strB l)),by rw [List.length_map],hA,o4,by rw [List.length_map]; exact o7,by rw [List.length_map]; exact chS_len _,chS_den m _ hb,fun v hv=>?_,fun j v hj=>?_,⟨hB.os,hB.tape,hB.output,hB.size,hB.block⟩⟩
    ·obtain ⟨l,_,rfl⟩:=List.mem_map.1 hv
     rfl
    ·rw [← Array.getElem?_toList,hc]
     exact hj
  ·cases h10
 ·cases h5
theorem rows_ok:KcOk Tryz.prog ρ (kcRow 12 rowF):=kcRow_ok knownF row_ok
end Go.Proofs.YthfaoceleaaepaaGreatDoor.sh
