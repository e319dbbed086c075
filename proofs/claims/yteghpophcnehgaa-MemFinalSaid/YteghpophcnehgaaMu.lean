/-
  What the functions that the law reaches do, one by one: contracts. Conditions: those that each of them prints.
-/
import Derived.Test.YteghpophcnehgaaMt
import Derived.WalkKit
import Derived.Laws.ResultCell
namespace Go.Proofs.Yteghpophcnehgaa
open Go.RowKit ExprA SndA
namespace SndA
def EOk (E:List (Int × Int)):Prop:=E.length≤9∧∀ x,((2:Int),x) ∈ E→0≤x∧x < 8
def InsOk (i:Ins):Prop:=(i.k=1∧0≤i.r∧i.r < 8) ∨ (i.k=2∧EOk i.E) ∨ i.k=3 ∨ (i.k=4∧(0≤i.r∧i.r < 8)∧EOk i.E) ∨ (i.k=5∧(0≤i.r∧i.r < 8)∧EOk i.E) ∨ (i.k=6∧(0≤i.n∧i.n≤1000)∧EOk i.E)
def DoInv (w1 wr:World) (L:List Ins) (rd:List Int) (s gb k:Nat) (sh:Bool):Prop:=
 ∃ (u:Nat) (E:List Ev) (rm:List (Int × Int)) (rg:List Int) (ve vr:Value) (im:Nat→Value) (li:Nat→List Int) (pi:Nat→List (Int × Int)),RS ⟨w1,[]⟩ wr s gb ve vr E rm (u:Int) rg sh im li pi∧DI k E rm li pi∧li 7=rd∧u≤rd.length ∧
  ((sh=false∧∃ f,L.length≤k + f∧runU L rd f k u rg=doU L rd) ∨ (sh=true∧doU L rd=(true,u)))
def R0:Value:=.agg #[.slice none 0 0,.slice none 0 0,.slice none 0 0,.slice none 0 0,.slice none 0 0,.int .i64 0,.slice none 0 0]
def RunV (b:Nat) (w':World) (e:Ending) (u:Nat):Prop:=∃ (ve vr vd vc vi vg:Value) (E:List Ev) (rm pd pc pj:List (Int × Int)),e=.returned (.tuple #[.agg #[ve,vr,vd,vc,vi,.int .i64 (u:Int),vg],.bool true])∧w'.ownsRow b 49 6 ve E.length (ecs E)∧PV w' vr rm∧PV w' vd pd∧PV w' vc pc∧PV w' vi pj∧E.length≤6∧rm.length≤3∧pd.length≤36∧pc.length≤36∧pj.length≤36∧(∃ a n c,vg=.slice a n c)∧∀ g,vr.ownBlock=some g ∨ vd.ownBlock=some g ∨ vc.ownBlock=some g ∨ vi.ownBlock=some g→b≤g
def DoBack (b:Nat) (w':World) (L:List Ins) (rd:List Int) (e:Ending):Prop:=
 ((doU L rd).1=true∧e=.returned (.tuple #[R0,.bool false])) ∨ ((doU L rd).1=false∧RunV b w' e (doU L rd).2)
theorem run_end {L:List Ins} {rd:List Int} {f k u:Nat} {rg:List Int} {X:Bool × Nat} (hk:¬ k < L.length) (h:runU L rd f k u rg=X):X=(false,u):=by
 cases f with
 | zero=>exact h.symm
 | succ g=>unfold runU at h; rw [if_neg hk] at h; exact h.symm
theorem results_cell_row2 {P:Program} {fn:Func} {p u:Tmp} {ty:TypeId} (h:fn.results=#[.cell p ty,.tmp u]) (tmps:Array Value) (w:World) (g:Nat) (t:TypeId) (cs:Array Value) (fr:Nat × Nat) (d:TypeDesc)
  (hp:tmps.getD p undef=.pointer (some ⟨g,0,none⟩)) (hg:w.heap[g]?=some (.cells cs t fr))
  (hu:P.underlying ty=some d) (hd:(match d with | .struct _ | .array _ _=>true | _=>false)=true) (hi:(P.info? ty).map (·.size)=some cs.size) :
  (results fn tmps).run P w=.ok (.tuple #[.agg cs,tmps.getD u undef]) w:=by
 rw [results_cell_tmp h,hp]
 simp [asAddr,Result.andThen,run_loadVar_row w g t ty cs fr d hg hu hd hi]
theorem RS.out7 {w1 W W':World} {s gb rb u:Nat} {ve vr:Value} {E:List Ev} {rm:List (Int × Int)} {rg:List Int} {sh:Bool} {im:Nat→Value} {li:Nat→List Int} {pi:Nat→List (Int × Int)} {cs:Array Value} {k:Nat} {vg:Value}
  (h:RS ⟨w1,[]⟩ W s gb ve vr E rm (u:Int) rg sh im li pi) (hd:DI k E rm li pi) (hk:k≤3) (hr:W.heap[rb]?=some (.cells cs 76 (0,0))) (hw:∀ b,b ≠ rb→W'.heap[b]?=W.heap[b]?) (hvg:∃ a n c,vg=.slice a n c) {b:Nat} (hbb:b≤w1.heap.size):RunV b W' (.returned (.tuple #[.agg #[ve,vr,im 2,im 3,im 4,.int .i64 (u:Int),vg],.bool true])) u:=by
 obtain ⟨a1,a2,_,a4⟩:=hd.len hk
 have ne:∀ {b0 e size n:Nat} {v:Value} {xs:List Value},W.ownsRow b0 e size v n xs→e ≠ 76→W'.ownsRow b0 e size v n xs:=fun ho he=>own_keep ho fun g q=>hw g (fun z=>by
  obtain ⟨c,f,y⟩:=Lib.ownsRow_kind ho g q
  rw [z,hr] at y
  simp only [Option.some.injEq,Obj.cells.injEq] at y
  exact he y.2.1.symm)
 exact ⟨ve,vr,im 2,im 3,im 4,vg,E,rm,pi 2,pi 3,pi 4,rfl,own_lower (ne h.oe (by decide)) hbb,own_lower (ne h.op (by decide)) (Nat.zero_le _),ne (h.cp 2 (by omega) (by omega)) (by decide),ne (h.cp 3 (by omega) (by omega)) (by decide),ne (h.cp 4 (by omega) (by omega)) (by decide),a1,a2,a4 2 (by omega) (by omega),a4 3 (by omega) (by omega),a4 4 (by omega) (by omega),hvg,fun g q=>Nat.le_trans hbb (by
  rcases q with q | q | q | q
  ·exact (h.op.lt g q).1
  ·exact (h.ap 2 (.inl ⟨by omega,by omega⟩) g q).2.2.2.2.2 (by omega)
  ·exact (h.ap 3 (.inl ⟨by omega,by omega⟩) g q).2.2.2.2.2 (by omega)
  ·exact (h.ap 4 (.inl ⟨by omega,by omega⟩) g q).2.2.2.2.2 (by omega))⟩
theorem set7_keep (w:World) (l:Nat) (v0 v1 v2 v3 v4 v5 v6:Value) (b:Nat) (h:b ≠ l):(((((((w.setCell ⟨l,0,none⟩ v0).setCell ⟨l,1,none⟩ v1).setCell ⟨l,2,none⟩ v2).setCell ⟨l,3,none⟩ v3).setCell ⟨l,4,none⟩ v4).setCell ⟨l,5,none⟩ v5).setCell ⟨l,6,none⟩ v6).heap[b]?=w.heap[b]?:=set7_far w l b v0 v1 v2 v3 v4 v5 v6 h
theorem run_at {L:List Ins} {rd:List Int} {f k u:Nat} {rg:List Int} {X:Bool × Nat} (hf:L.length≤k + f) (hk:k < L.length) (h:runU L rd f k u rg=X):∃ g,f=g + 1∧L.length≤k + 1 + g∧runU L rd (g + 1) k u rg=X:=by
 cases f with
 | zero=>omega
 | succ g=>exact ⟨g,rfl,by omega,h⟩
theorem run_read {L:List Ins} {rd:List Int} {g k u:Nat} {rg:List Int} {X:Bool × Nat} (hk:k < L.length) (h:runU L rd (g + 1) k u rg=X) (hi:(L.getD k Ins.zero).k=1 ∨ (L.getD k Ins.zero).k=4) :
  (u < rd.length→runU L rd g (k + 1) (u + 1) (rg.set (L.getD k Ins.zero).r.toNat (rd.getD u 0))=X)∧(¬ u < rd.length→X=(true,u)):=by
 unfold runU at h
 rw [if_pos hk,if_pos hi] at h
 constructor
 ·intro q; rw [if_pos q] at h; exact h
 ·intro q; rw [if_neg q] at h; exact h.symm
theorem run_set {L:List Ins} {rd:List Int} {g k u:Nat} {rg:List Int} {X:Bool × Nat} (hk:k < L.length) (h:runU L rd (g + 1) k u rg=X) (hi:(L.getD k Ins.zero).k=5) :
  runU L rd g (k + 1) u (rg.set (L.getD k Ins.zero).r.toNat (evalS (L.getD k Ins.zero).E rg))=X:=by
 unfold runU at h
 rw [if_pos hk,if_neg (by omega),if_pos hi] at h
 exact h
theorem run_skip {L:List Ins} {rd:List Int} {g k u:Nat} {rg:List Int} {X:Bool × Nat} (hk:k < L.length) (h:runU L rd (g + 1) k u rg=X) (hi:(L.getD k Ins.zero).k=6) :
  runU L rd g (k + (if evalS (L.getD k Ins.zero).E rg=0 then 0 else (L.getD k Ins.zero).n.toNat) + 1) u rg=X:=by
 unfold runU at h
 rw [if_pos hk,if_neg (by omega),if_neg (by omega),if_pos hi] at h
 exact h
theorem run_other {L:List Ins} {rd:List Int} {g k u:Nat} {rg:List Int} {X:Bool × Nat} (hk:k < L.length) (h:runU L rd (g + 1) k u rg=X) (hi:(L.getD k Ins.zero).k=2 ∨ (L.getD k Ins.zero).k=3):runU L rd g (k + 1) u rg=X:=by
 unfold runU at h
 rw [if_pos hk,if_neg (by omega),if_neg (by omega),if_neg (by omega)] at h
 exact h
end SndA
set_option maxRecDepth 100000 in
set_option maxHeartbeats 16000000 in
theorem do_any (a:Option Addr) (L:List Ins) (c:Nat) (v7:Value) (rd:List Int) (w:World) (h:LIn w a L) (hi:∀ q,q < L.length→InsOk (L.getD q Ins.zero)∧TIn w (L.getD q Ins.zero).a (L.getD q Ins.zero).E∧((L.getD q Ins.zero).k=6→(q:Int) + (L.getD q Ins.zero).n + 1≤(L.length:Int))) (hL:L.length≤3) (hrd:LV w v7 rd) (hrl:rd.length≤1000) :
  Calls Try.prog 37 #[.slice a L.length c,v7] w fun e w'=>DoBack w.heap.size w' L rd e∧Below w.heap.size w w':=by
 have HL:=Lib.hid h
 have HI:=Lib.hid hi
 have HRD:=Lib.hid hrd
 have hLi:(L.length:Int)≤3:=by omega
 clear h hi hrd
 go_enter Try.func37,Try.ntmps37
 go_wp2_with fail
 obtain ⟨w1,hw1⟩:∃ x,x=w.alloc (Obj.cells #[.slice none 0 0,.slice none 0 0,.slice none 0 0,.slice none 0 0,.slice none 0 0,.int .i64 0,.slice none 0 0] 76 (0,0)):=⟨_,rfl⟩
 obtain ⟨rb,hrb⟩:∃ x,x=w.heap.size:=⟨_,rfl⟩
 have hb0:Below w.heap.size w w1:=by rw [hw1]; exact (Below.refl _ _).alloc (Nat.le_refl _) _
 have hrx:w1.heap[rb]?=some (Obj.cells #[.slice none 0 0,.slice none 0 0,.slice none 0 0,.slice none 0 0,.slice none 0 0,.int .i64 0,.slice none 0 0] 76 (0,0)):=by rw [hw1,hrb]; exact heap_alloc_new _ _
 have HW1:=Lib.hid hw1
 have HRB:=Lib.hid hrb
 have HRX:=Lib.hid hrx
 have HB0:=Lib.hid hb0
 clear hw1 hrb hrx hb0
 rw [← HW1.out]
 refine (start_any v7 rd w1 (HRD.out.next HB0.out)).mono ?_
 rintro e w2 ⟨s,gb,im0,li0,pi0,rfl,hS,-,h7,hli,hpi⟩
 have HD0:Hid (DoInv w1 w2 L rd s gb 0 false):=Lib.hid ⟨0,[],[],_,_,_,im0,li0,pi0,hS,⟨Nat.le_refl _,Nat.le_refl _,fun j x y=>by rw [hli j (by omega)]; exact InR.nil _,fun j _ _=>by rw [hpi j]; exact Nat.zero_le _⟩,h7,Nat.zero_le _,.inl ⟨rfl,L.length,by omega,rfl⟩⟩
 clear hS h7 hli hpi
 go_wp2_with fail
 rw [← HRB.out]
 go_loopw [7] (fun z7 wr=>∃ (k:Nat) (sh:Bool),z7=.int .i64 k∧k≤L.length∧Hid (DoInv w1 wr L rd s gb k sh)) (fun z7 _=>L.length - (intOf z7).toNat)
 case atStart=>exact ⟨0,false,rfl,Nat.zero_le _,HD0⟩
 case round=>
  obtain ⟨k,sh,rfl,hk2,HD⟩:=hrel
  have hki:(k:Int)≤2000:=by omega
  obtain ⟨u,E,rm,rg,ve,vr,im,li,pi,hS,hDI,h7,hu,hrun⟩:=HD.out
  have HS:=Lib.hid hS
  have HDI:=Lib.hid hDI
  have HRN:=Lib.hid hrun
  have H7:=Lib.hid h7
  have c18:wr.cell? ⟨s,18,none⟩=some (.bool sh):=by simp only [World.cell?,hS.box]; rfl
  clear hS hDI hrun h7 HD0
  by_cases hlt:k < L.length
  ·have d1:decide ((k:Int) < (L.length:Int))=true:=by simp; omega
   have i1:(k:Int) < (L.length:Int):=by omega
   cases sh with
   | true=>
    have hdo:doU L rd=(true,u):=by
     rcases HRN.out with ⟨q,_⟩ | ⟨_,q⟩
     ·cases q
     ·exact q
    have HDO:=Lib.hid hdo
    clear hdo
    have hrbx:wr.heap[rb]?=_:=(HS.out.bel.block rb (blk_lt HRX.out)).trans HRX.out
    have r0:wr.cell? ⟨rb,0,none⟩=some (.slice none 0 0):=by simp only [World.cell?,hrbx]; rfl
    have f0:wr.frozen? ⟨rb,0,none⟩=false:=by simp only [World.frozen?,hrbx]; rfl
    have r1:wr.cell? ⟨rb,1,none⟩=some (.slice none 0 0):=by simp only [World.cell?,hrbx]; rfl
    have f1:wr.frozen? ⟨rb,1,none⟩=false:=by simp only [World.frozen?,hrbx]; rfl
    have r2:wr.cell? ⟨rb,2,none⟩=some (.slice none 0 0):=by simp only [World.cell?,hrbx]; rfl
    have f2:wr.frozen? ⟨rb,2,none⟩=false:=by simp only [World.frozen?,hrbx]; rfl
    have r3:wr.cell? ⟨rb,3,none⟩=some (.slice none 0 0):=by simp only [World.cell?,hrbx]; rfl
    have f3:wr.frozen? ⟨rb,3,none⟩=false:=by simp only [World.frozen?,hrbx]; rfl
    have r4:wr.cell? ⟨rb,4,none⟩=some (.slice none 0 0):=by simp only [World.cell?,hrbx]; rfl
    have f4:wr.frozen? ⟨rb,4,none⟩=false:=by simp only [World.frozen?,hrbx]; rfl
    have r5:wr.cell? ⟨rb,5,none⟩=some (.int .i64 0):=by simp only [World.cell?,hrbx]; rfl
    have f5:wr.frozen? ⟨rb,5,none⟩=false:=by simp only [World.frozen?,hrbx]; rfl
    have r6:wr.cell? ⟨rb,6,none⟩=some (.slice none 0 0):=by simp only [World.cell?,hrbx]; rfl
    have f6:wr.frozen? ⟨rb,6,none⟩=false:=by simp only [World.frozen?,hrbx]; rfl
    have HRX2:=Lib.hid hrbx
    have HBW:Hid (Below w.heap.size w wr):=Lib.hid (HB0.out.trans (HS.out.bel.mono HB0.out.size))
    clear hrbx
    go_wp2_with fail
    refine bodyPost_ret (v:=.tuple #[R0,.bool false]) ?_ rfl ⟨.inl ⟨by rw [HDO.out],rfl⟩,below_set7 HBW.out rb _ _ _ _ _ _ _ (by rw [HRB.out]; exact Nat.le_refl _)⟩
    rw [results_cell_row2 (P:=Try.prog) (fn:=Try.f37) (p:=4) (u:=5) (ty:=76) rfl _ _ rb 76 #[.slice none 0 0,.slice none 0 0,.slice none 0 0,.slice none 0 0,.slice none 0 0,.int .i64 0,.slice none 0 0] (0,0) _ ?hp ?hg Try.underlying76 rfl (by kernel_rfl)]
    case hp=>rfl
    case hg=>exact set7_at wr rb 76 _ _ _ _ _ _ _ _ _ _ _ _ _ _ HRX2.out
    all_goals rfl
   | false=>
    have hk3:k≤2:=by omega
    obtain ⟨f,hf,hrun⟩:∃ f,L.length≤k + f∧runU L rd f k u rg=doU L rd:=by
     rcases HRN.out with ⟨_,q⟩ | ⟨q,_⟩
     ·exact q
     ·cases q
    obtain ⟨g,rfl,hg,hrun⟩:=run_at hf hlt hrun
    have HG:=Lib.hid hrun
    clear hrun hf HRN
    have hbw:Below w.heap.size w wr:=HB0.out.trans (HS.out.bel.mono HB0.out.size)
    obtain ⟨hok,htk,hsk⟩:=HI.out k hlt
    have HTK:=Lib.hid (htk.next HB0.out)
    have hcells:∃ b o,a=some ⟨b,o,none⟩∧LCells wr b (o + k * 7) (L.getD k Ins.zero):=by
     rcases HL.out.next hbw with q | ⟨b,o,q1,_,q3⟩
     ·rw [q] at hlt; exact absurd hlt (Nat.not_lt_zero _)
     ·exact ⟨b,o,q1,q3 k hlt⟩
    obtain ⟨b,o,ha,x0,x1,x2,x3,x4,x5,x6⟩:=hcells
    obtain ⟨i,hi⟩:∃ i,L.getD k Ins.zero=i:=⟨_,rfl⟩
    have HII:=Lib.hid hi
    rw [hi] at x0 x1 x2 x3 x4 x5 x6 hok HTK hsk
    obtain ⟨ik,im1,im2,ir,il,inn,ia,iE,ic⟩:=i
    simp only at x0 x1 x2 x3 x4 x5 x6 hok HTK hsk
    have HSK:=Lib.hid hsk
    clear hsk
    unfold InsOk at hok
    simp only at hok
    clear hi hbw htk
    subst ha
    have HX:Hid _:=Lib.hid (And.intro x1 (And.intro x2 (And.intro x3 (And.intro x4 (And.intro x5 x6)))))
    rcases hok with ⟨rfl,hr0,hr8⟩ | ⟨rfl,hE⟩ | rfl | ⟨rfl,⟨hr0,hr8⟩,hE⟩ | ⟨rfl,⟨hr0,hr8⟩,hE⟩ | ⟨rfl,⟨hn0,hn8⟩,hE⟩
    ·obtain ⟨r,hr⟩:∃ r:Nat,ir=(r:Int):=⟨ir.toNat,by omega⟩
     subst hr
     have hr8n:r < 8:=by omega
     obtain ⟨el,rl,ll,pl⟩:=HDI.out.len (show k≤3 by omega)
     have HR:=Lib.hid (run_read hlt HG.out (.inl (by rw [HII.out])))
     rw [HII.out] at HR
     simp only [Int.toNat_natCast] at HR
     have hl16:=ll 16 (by omega) (by omega)
     have hl17:=ll 17 (by omega) (by omega)
     have hp2:=pl 2 (by omega) (by omega)
     have hp3:=pl 3 (by omega) (by omega)
     have hp4:=pl 4 (by omega) (by omega)
     by_cases hul:u < rd.length
     ·go_wp2_with fail
      refine (read_yes il im1 false r u _ (HS.out.next ((Below.refl _ _).alloc (Nat.le_refl _) _)) hr8n (by rw [H7.out]; exact hul) (by rw [H7.out]; exact hrl) (by omega) (by omega) (by omega) (by omega)).mono ?_
      rintro e w5 ⟨⟨ve5,im5,pi5,rfl,hS5,hq2,hq3,hq4,-⟩,-⟩
      have HN:Hid (DoInv w1 w5 L rd s gb (k + 1) false):=Lib.hid ⟨u + 1,_,_,_,_,_,_,_,_,hS5,HDI.out.read (by omega) hq2 hq3 hq4,by rw [updF_ne _ _ (by omega),updF_ne _ _ (by omega),updF_ne _ _ (by omega)]; exact H7.out,hul,.inl ⟨rfl,g,hg,by rw [H7.out]; exact HR.out.1 hul⟩⟩
      clear hS5 hq2 hq3 hq4
      go_wp2_with fail
      go_roundw
      case rel=>exact ⟨k + 1,false,by go_num,by omega,HN⟩
      case measure=>simp [intOf]; omega
     ·go_wp2_with fail
      refine (read_no il im1 false r u _ (HS.out.next ((Below.refl _ _).alloc (Nat.le_refl _) _)) (by rw [H7.out]; omega) (by omega)).mono ?_
      rintro e w5 ⟨rfl,hS5⟩
      have HN:Hid (DoInv w1 w5 L rd s gb (k + 1) true):=Lib.hid ⟨u,_,_,_,_,_,_,_,_,hS5,HDI.out.up (by omega),H7.out,hu,.inr ⟨rfl,HR.out.2 hul⟩⟩
      clear hS5
      go_wp2_with fail
      go_roundw
      case rel=>exact ⟨k + 1,true,by go_num,by omega,HN⟩
      case measure=>simp [intOf]; omega
    ·obtain ⟨hE1,hE2⟩:=hE
     obtain ⟨el,rl,ll,pl⟩:=HDI.out.len (show k≤3 by omega)
     have hl16:=ll 16 (by omega) (by omega)
     have hl17:=ll 17 (by omega) (by omega)
     have hp2:=pl 2 (by omega) (by omega)
     have hp3:=pl 3 (by omega) (by omega)
     have hp4:=pl 4 (by omega) (by omega)
     have HR:=Lib.hid (run_other hlt HG.out (.inl (by rw [HII.out])))
     have hbx:(wr.alloc (Obj.cells #[.int .i64 2,.int .i64 im1,.int .i64 im2,.int .i64 ir,.int .i64 il,.slice ia iE.length ic,.int .i64 inn] 47)).heap[wr.heap.size]?=some (Obj.cells #[.int .i64 2,.int .i64 im1,.int .i64 im2,.int .i64 ir,.int .i64 il,.slice ia iE.length ic,.int .i64 inn] 47 (0,0)):=heap_alloc_new _ _
     have HY:Hid ((wr.alloc (Obj.cells #[.int .i64 2,.int .i64 im1,.int .i64 im2,.int .i64 ir,.int .i64 il,.slice ia iE.length ic,.int .i64 inn] 47)).cell? ⟨wr.heap.size,4,none⟩=some (.int .i64 il)∧(wr.alloc (Obj.cells #[.int .i64 2,.int .i64 im1,.int .i64 im2,.int .i64 ir,.int .i64 il,.slice ia iE.length ic,.int .i64 inn] 47)).cell? ⟨wr.heap.size,1,none⟩=some (.int .i64 im1)∧(wr.alloc (Obj.cells #[.int .i64 2,.int .i64 im1,.int .i64 im2,.int .i64 ir,.int .i64 il,.slice ia iE.length ic,.int .i64 inn] 47)).cell? ⟨wr.heap.size,5,none⟩=some (.slice ia iE.length ic)):=Lib.hid ⟨by simp only [World.cell?,hbx]; rfl,by simp only [World.cell?,hbx]; rfl,by simp only [World.cell?,hbx]; rfl⟩
     clear hbx
     go_wp2_with fail
     refine stR_l _ ⟨w1,[]⟩ s gb wr.heap.size ve vr E rm (u:Int) rg false im li pi il im1 _ ia iE ic (HS.out.next ((Below.refl _ _).alloc (Nat.le_refl _) _)) HY.out.1 HY.out.2.1 HY.out.2.2 HTK.out hE1 hE2 (fun j q1 q2=>by have:=ll j q1 (by omega); omega) rfl (by omega) (by omega) (by omega) (by omega) (by omega) _ _ _ _ _ _ _ _ _ _ _ _ _ _ _ _ _ _ _ _ _ _ _ _ _ _ _ _ _ _ _ _ _ _ _ _ _ _ _ _ _ _ _ _ _ _ _ _ _ _ _ _ _ _ _ _ _ _ _ _ _ _ _ _ _ _ _ _ _ _ _ _ _ _ _ _ _ _ _ _ _ _ _ _ _ _ _ _ _ _ _ _ _ _ _ _ _ _ (fun _ _ _ _ _ h=>h) ?_
     intro y42 y43 y44 y45 y46 y47 y48 y49 y50 y51 y52 y53 y54 y55 y56 y57 y58 y59 w5 l e5 hw hof
     have HN:Hid (DoInv w1 w5 L rd s gb (k + 1) false):=Lib.hid (by
      obtain ⟨_,ve5,vr5,im5,pi5,_,hS5,hq2,hq3,hq4⟩:=hw
      rw [updF_at] at hq2
      rw [updF_ne _ _ (by omega)] at hq3 hq4
      rw [if_neg (by simp)] at hS5
      exact ⟨u,_,_,_,_,_,_,_,_,hS5,HDI.out.write (by omega) (HDI.out.of hof) hq2 hq3 hq4,by rw [updF_ne _ _ (by omega)]; exact H7.out,hu,.inl ⟨rfl,g,hg,HR.out⟩⟩)
     clear hw hof
     go_wp2_with fail
     go_roundw
     case rel=>exact ⟨k + 1,false,by go_num,by omega,HN⟩
     case measure=>simp [intOf]; omega
    ·obtain ⟨el,rl,ll,pl⟩:=HDI.out.len (show k≤3 by omega)
     have hl16:=ll 16 (by omega) (by omega)
     have hl17:=ll 17 (by omega) (by omega)
     have hp2:=pl 2 (by omega) (by omega)
     have hp3:=pl 3 (by omega) (by omega)
     have hp4:=pl 4 (by omega) (by omega)
     have HR:=Lib.hid (run_other hlt HG.out (.inr (by rw [HII.out])))
     go_wp2_with fail
     have hS1:=fun W (hW:Below wr.heap.size wr W)=>(HS.out.next hW).virt 20 (by omega) (by omega) (.slice none 0 0) [] (LV.nil _) (apart_nil _ _ _ _ _)
     have hev:=fun W hW=>event_any ⟨0,3,im1,0,0,false⟩ W (hS1 W hW) (by omega) (by rw [updF_at]; simp; omega) (by rw [updF_ne _ _ (by omega)]; omega) (by rw [updF_ne _ _ (by omega)]; omega)
     simp only [updF_at] at hev
     refine (hev _ ((Below.refl _ _).alloc (Nat.le_refl _) _)).mono ?_
     rintro e w5 ⟨⟨ve5,im5,pi5,rfl,hS5,hq2,hq3,hq4,-⟩,-⟩
     rw [updF_ne _ _ (by omega)] at hq3 hq4
     have HN:Hid (DoInv w1 w5 L rd s gb (k + 1) false):=Lib.hid ⟨u,_,_,_,_,_,_,_,_,hS5,HDI.out.write (by omega) (InR.nil _) hq2 hq3 hq4,by rw [updF_ne _ _ (by omega)]; exact H7.out,hu,.inl ⟨rfl,g,hg,HR.out⟩⟩
     clear hS5 hq2 hq3 hq4 hS1 hev
     go_wp2_with fail
     go_roundw
     case rel=>exact ⟨k + 1,false,by go_num,by omega,HN⟩
     case measure=>simp [intOf]; omega
    ·obtain ⟨hE1,hE2⟩:=hE
     obtain ⟨r,hr⟩:∃ r:Nat,ir=(r:Int):=⟨ir.toNat,by omega⟩
     subst hr
     have hr8n:r < 8:=by omega
     obtain ⟨el,rl,ll,pl⟩:=HDI.out.len (show k≤3 by omega)
     have hl16:=ll 16 (by omega) (by omega)
     have hl17:=ll 17 (by omega) (by omega)
     have hp2:=pl 2 (by omega) (by omega)
     have hp3:=pl 3 (by omega) (by omega)
     have hp4:=pl 4 (by omega) (by omega)
     have HR:=Lib.hid (run_read hlt HG.out (.inr (by rw [HII.out])))
     rw [HII.out] at HR
     simp only [Int.toNat_natCast] at HR
     by_cases hul:u < rd.length
     ·go_wp2_with fail
      refine (faa_yes 4 im1 im2 il inn r u ia iE ic _ (HS.out.next ((Below.refl _ _).alloc (Nat.le_refl _) _)) hr8n HTK.out hE1 hE2 (fun j q1 q2=>by have:=ll j q1 (by omega); omega) (by rw [H7.out]; exact hul) (by rw [H7.out]; exact hrl) (by omega) (by omega) (by omega) (by omega) (by omega)).mono ?_
      rintro e w5 ⟨x9,ve5,vr5,im5,lo,pi2,pi5,y9,l9,rfl,hS5,ho,hb9,hq2,hq3,hq4,hq5,hq6,hq7⟩
      have HN:Hid (DoInv w1 w5 L rd s gb (k + 1) false):=Lib.hid ⟨u + 1,_,_,_,_,_,_,_,_,hS5,HDI.out.faa hk3 ho hb9 hq2 hq3 hq4 hq5 hq6 hq7,by rw [updF_ne _ _ (by omega),updF_ne _ _ (by omega),updF_ne _ _ (by omega),updF_ne _ _ (by omega),updF_ne _ _ (by omega)]; exact H7.out,hul,.inl ⟨rfl,g,hg,by rw [H7.out]; exact HR.out.1 hul⟩⟩
      clear hS5 hq2 hq3 hq4 hq5 hq6 hq7 ho hb9
      go_wp2_with fail
      go_roundw
      case rel=>exact ⟨k + 1,false,by go_num,by omega,HN⟩
      case measure=>simp [intOf]; omega
     ·go_wp2_with fail
      refine (faa_no 4 im1 im2 il inn r u ia iE ic _ (HS.out.next ((Below.refl _ _).alloc (Nat.le_refl _) _)) hr8n HTK.out hE1 hE2 (fun j q1 q2=>by have:=ll j q1 (by omega); omega) (by rw [H7.out]; omega) (by omega)).mono ?_
      rintro e w5 ⟨x9,im5,lo,rfl,hS5⟩
      have HN:Hid (DoInv w1 w5 L rd s gb (k + 1) true):=Lib.hid ⟨u,_,_,_,_,_,_,_,_,hS5,⟨by have:=HDI.out.el; omega,by have:=HDI.out.rl; omega,fun j q1 q2=>by rw [updF_ne _ _ (by omega)]; exact HDI.out.li_ j q1 q2,HDI.out.pl⟩,by rw [updF_ne _ _ (by omega)]; exact H7.out,hu,.inr ⟨rfl,HR.out.2 hul⟩⟩
      clear hS5
      go_wp2_with fail
      go_roundw
      case rel=>exact ⟨k + 1,true,by go_num,by omega,HN⟩
      case measure=>simp [intOf]; omega
    ·obtain ⟨hE1,hE2⟩:=hE
     obtain ⟨r,hr⟩:∃ r:Nat,ir=(r:Int):=⟨ir.toNat,by omega⟩
     subst hr
     have hr8n:r < 8:=by omega
     obtain ⟨el,rl,ll,pl⟩:=HDI.out.len (show k≤3 by omega)
     have hl16:=ll 16 (by omega) (by omega)
     have hl17:=ll 17 (by omega) (by omega)
     have hp2:=pl 2 (by omega) (by omega)
     have hp3:=pl 3 (by omega) (by omega)
     have hp4:=pl 4 (by omega) (by omega)
     have HR:=Lib.hid (run_set hlt HG.out (by rw [HII.out]))
     rw [HII.out] at HR
     simp only [Int.toNat_natCast] at HR
     go_wp2_with fail
     refine (move_any r ia iE ic _ (HS.out.next ((Below.refl _ _).alloc (Nat.le_refl _) _)) hr8n HTK.out hE1 hE2 (fun j q1 q2=>by have:=ll j q1 (by omega); omega)).mono ?_
     rintro e w5 ⟨x9,im5,l,rfl,hS5,hof⟩
     have HN:Hid (DoInv w1 w5 L rd s gb (k + 1) false):=Lib.hid ⟨u,_,_,_,_,_,_,_,_,hS5,((HDI.out.set 18 _ (HDI.out.of hof)).set (8 + r) _ (HDI.out.of hof)).up (by omega),by rw [updF_ne _ _ (by omega),updF_ne _ _ (by omega)]; exact H7.out,hu,.inl ⟨rfl,g,hg,HR.out⟩⟩
     clear hS5 hof
     go_wp2_with fail
     go_roundw
     case rel=>exact ⟨k + 1,false,by go_num,by omega,HN⟩
     case measure=>simp [intOf]; omega
    ·obtain ⟨hE1,hE2⟩:=hE
     obtain ⟨nn,hnn⟩:∃ nn:Nat,inn=(nn:Int):=⟨inn.toNat,by omega⟩
     subst hnn
     obtain ⟨el,rl,ll,pl⟩:=HDI.out.len (show k≤3 by omega)
     have hl16:=ll 16 (by omega) (by omega)
     have hl17:=ll 17 (by omega) (by omega)
     have hp2:=pl 2 (by omega) (by omega)
     have hp3:=pl 3 (by omega) (by omega)
     have hp4:=pl 4 (by omega) (by omega)
     have HR:=Lib.hid (run_skip hlt HG.out (by rw [HII.out]))
     rw [HII.out] at HR
     simp only [Int.toNat_natCast] at HR
     go_wp2_with fail
     refine (skip_any (nn:Int) ia iE ic _ (HS.out.next ((Below.refl _ _).alloc (Nat.le_refl _) _)) HTK.out hE1 hE2 (fun j q1 q2=>by have:=ll j q1 (by omega); omega) (by omega)).mono ?_
     rintro e w5 ⟨im5,l,M,rfl,hS5,hof,hbo⟩
     obtain ⟨d,hd⟩:∃ d:Nat,(if evalS iE rg=0 then 0 else nn)=d:=⟨_,rfl⟩
     have hdi:(if evalS iE rg=0 then (0:Int) else (nn:Int))=(d:Int):=by rw [← hd]; split <;> rfl
     have hd8:d≤nn:=by rw [← hd]; split <;> omega
     have hsk:=HSK.out (by first | exact rfl | exact trivial)
     rw [hd] at HR
     rw [hdi]
     have hkd:k + d + 1≤L.length:=by omega
     have HN:Hid (DoInv w1 w5 L rd s gb (k + d + 1) false):=Lib.hid ⟨u,_,_,_,_,_,_,_,_,hS5,((HDI.out.set 18 _ (HDI.out.of hof)).set 16 _ (InR.both (HDI.out.li_ 16 (by omega) (by omega)) (HDI.out.of hof) hbo)).up (by omega),by rw [updF_ne _ _ (by omega),updF_ne _ _ (by omega)]; exact H7.out,hu,.inl ⟨rfl,g,by omega,HR.out⟩⟩
     clear hS5 hof hbo hd hdi
     go_wp2_with fail
     go_roundw
     case rel=>exact ⟨k + d + 1,false,by go_num,by omega,HN⟩
     case measure=>simp [intOf]; omega
  ·have d1:decide ((k:Int) < (L.length:Int))=false:=by simp; omega
   cases sh with
   | true=>
    have hdo:doU L rd=(true,u):=by
     rcases HRN.out with ⟨q,_⟩ | ⟨_,q⟩
     ·cases q
     ·exact q
    have HDO:=Lib.hid hdo
    clear hdo
    have hrbx:wr.heap[rb]?=_:=(HS.out.bel.block rb (blk_lt HRX.out)).trans HRX.out
    have r0:wr.cell? ⟨rb,0,none⟩=some (.slice none 0 0):=by simp only [World.cell?,hrbx]; rfl
    have f0:wr.frozen? ⟨rb,0,none⟩=false:=by simp only [World.frozen?,hrbx]; rfl
    have r1:wr.cell? ⟨rb,1,none⟩=some (.slice none 0 0):=by simp only [World.cell?,hrbx]; rfl
    have f1:wr.frozen? ⟨rb,1,none⟩=false:=by simp only [World.frozen?,hrbx]; rfl
    have r2:wr.cell? ⟨rb,2,none⟩=some (.slice none 0 0):=by simp only [World.cell?,hrbx]; rfl
    have f2:wr.frozen? ⟨rb,2,none⟩=false:=by simp only [World.frozen?,hrbx]; rfl
    have r3:wr.cell? ⟨rb,3,none⟩=some (.slice none 0 0):=by simp only [World.cell?,hrbx]; rfl
    have f3:wr.frozen? ⟨rb,3,none⟩=false:=by simp only [World.frozen?,hrbx]; rfl
    have r4:wr.cell? ⟨rb,4,none⟩=some (.slice none 0 0):=by simp only [World.cell?,hrbx]; rfl
    have f4:wr.frozen? ⟨rb,4,none⟩=false:=by simp only [World.frozen?,hrbx]; rfl
    have r5:wr.cell? ⟨rb,5,none⟩=some (.int .i64 0):=by simp only [World.cell?,hrbx]; rfl
    have f5:wr.frozen? ⟨rb,5,none⟩=false:=by simp only [World.frozen?,hrbx]; rfl
    have r6:wr.cell? ⟨rb,6,none⟩=some (.slice none 0 0):=by simp only [World.cell?,hrbx]; rfl
    have f6:wr.frozen? ⟨rb,6,none⟩=false:=by simp only [World.frozen?,hrbx]; rfl
    have HRX2:=Lib.hid hrbx
    have HBW:Hid (Below w.heap.size w wr):=Lib.hid (HB0.out.trans (HS.out.bel.mono HB0.out.size))
    clear hrbx
    go_wp2_with fail
    refine bodyPost_ret (v:=.tuple #[R0,.bool false]) ?_ rfl ⟨.inl ⟨by rw [HDO.out],rfl⟩,below_set7 HBW.out rb _ _ _ _ _ _ _ (by rw [HRB.out]; exact Nat.le_refl _)⟩
    rw [results_cell_row2 (P:=Try.prog) (fn:=Try.f37) (p:=4) (u:=5) (ty:=76) rfl _ _ rb 76 #[.slice none 0 0,.slice none 0 0,.slice none 0 0,.slice none 0 0,.slice none 0 0,.int .i64 0,.slice none 0 0] (0,0) _ ?hp ?hg Try.underlying76 rfl (by kernel_rfl)]
    case hp=>rfl
    case hg=>exact set7_at wr rb 76 _ _ _ _ _ _ _ _ _ _ _ _ _ _ HRX2.out
    all_goals rfl
   | false=>
    have hdo:doU L rd=(false,u):=by
     rcases HRN.out with ⟨_,f,_,q⟩ | ⟨q,_⟩
     ·exact run_end hlt q
     ·cases q
    have HDO:=Lib.hid hdo
    clear hdo
    have hrbx:wr.heap[rb]?=_:=(HS.out.bel.block rb (blk_lt HRX.out)).trans HRX.out
    have r0:wr.cell? ⟨rb,0,none⟩=some (.slice none 0 0):=by simp only [World.cell?,hrbx]; rfl
    have f0:wr.frozen? ⟨rb,0,none⟩=false:=by simp only [World.frozen?,hrbx]; rfl
    have r1:wr.cell? ⟨rb,1,none⟩=some (.slice none 0 0):=by simp only [World.cell?,hrbx]; rfl
    have f1:wr.frozen? ⟨rb,1,none⟩=false:=by simp only [World.frozen?,hrbx]; rfl
    have r2:wr.cell? ⟨rb,2,none⟩=some (.slice none 0 0):=by simp only [World.cell?,hrbx]; rfl
    have f2:wr.frozen? ⟨rb,2,none⟩=false:=by simp only [World.frozen?,hrbx]; rfl
    have r3:wr.cell? ⟨rb,3,none⟩=some (.slice none 0 0):=by simp only [World.cell?,hrbx]; rfl
    have f3:wr.frozen? ⟨rb,3,none⟩=false:=by simp only [World.frozen?,hrbx]; rfl
    have r4:wr.cell? ⟨rb,4,none⟩=some (.slice none 0 0):=by simp only [World.cell?,hrbx]; rfl
    have f4:wr.frozen? ⟨rb,4,none⟩=false:=by simp only [World.frozen?,hrbx]; rfl
    have r5:wr.cell? ⟨rb,5,none⟩=some (.int .i64 0):=by simp only [World.cell?,hrbx]; rfl
    have f5:wr.frozen? ⟨rb,5,none⟩=false:=by simp only [World.frozen?,hrbx]; rfl
    have r6:wr.cell? ⟨rb,6,none⟩=some (.slice none 0 0):=by simp only [World.cell?,hrbx]; rfl
    have f6:wr.frozen? ⟨rb,6,none⟩=false:=by simp only [World.frozen?,hrbx]; rfl
    have HRX2:=Lib.hid hrbx
    have HBW:Hid (Below w.heap.size w wr):=Lib.hid (HB0.out.trans (HS.out.bel.mono HB0.out.size))
    clear hrbx
    have HQ:Hid (∀ W',(∀ b,b ≠ rb→W'.heap[b]?=wr.heap[b]?)→RunV w.heap.size W' (.returned (.tuple #[.agg #[ve,vr,im 2,im 3,im 4,.int .i64 (u:Int),.slice (some ⟨gb,0,none⟩) 8 8],.bool true])) u):=Lib.hid (fun W' hw=>HS.out.out7 HDI.out (by omega) HRX2.out hw ⟨_,_,_,rfl⟩ HB0.out.size)
    obtain ⟨q0,t0,e0⟩:=own_len HS.out.oe
    obtain ⟨q1,t1,e1⟩:=own_len HS.out.op
    obtain ⟨q2,t2,e2⟩:=own_len (HS.out.cp 2 (by omega) (by omega))
    obtain ⟨q3,t3,e3⟩:=own_len (HS.out.cp 3 (by omega) (by omega))
    obtain ⟨q4,t4,e4⟩:=own_len (HS.out.cp 4 (by omega) (by omega))
    have g0:wr.cell? ⟨s,0,none⟩=some ve:=by simp only [World.cell?,HS.out.box]; rfl
    have g1:wr.cell? ⟨s,1,none⟩=some vr:=by simp only [World.cell?,HS.out.box]; rfl
    have g2:wr.cell? ⟨s,2,none⟩=some (im 2):=by simp only [World.cell?,HS.out.box]; rfl
    have g3:wr.cell? ⟨s,3,none⟩=some (im 3):=by simp only [World.cell?,HS.out.box]; rfl
    have g4:wr.cell? ⟨s,4,none⟩=some (im 4):=by simp only [World.cell?,HS.out.box]; rfl
    have g5:wr.cell? ⟨s,5,none⟩=some (.int .i64 (u:Int)):=by simp only [World.cell?,HS.out.box]; rfl
    have g6:wr.cell? ⟨s,6,none⟩=some (.slice (some ⟨gb,0,none⟩) 8 8):=HS.out.c6
    rw [e0] at g0
    rw [e1] at g1
    rw [e2] at g2
    rw [e3] at g3
    rw [e4] at g4
    rw [e0,e1,e2,e3,e4] at HQ
    clear e0 e1 e2 e3 e4
    go_wp2_with fail
    refine bodyPost_ret (v:=.tuple #[.agg #[.slice q0 E.length t0,.slice q1 rm.length t1,.slice q2 (pi 2).length t2,.slice q3 (pi 3).length t3,.slice q4 (pi 4).length t4,.int .i64 (u:Int),.slice (some ⟨gb,0,none⟩) 8 8],.bool true]) ?_ rfl ⟨.inr ⟨by rw [HDO.out],?_⟩,below_set7 HBW.out rb _ _ _ _ _ _ _ (by rw [HRB.out]; exact Nat.le_refl _)⟩
    ·rw [results_cell_row2 (P:=Try.prog) (fn:=Try.f37) (p:=4) (u:=5) (ty:=76) rfl _ _ rb 76 #[.slice q0 E.length t0,.slice q1 rm.length t1,.slice q2 (pi 2).length t2,.slice q3 (pi 3).length t3,.slice q4 (pi 4).length t4,.int .i64 (u:Int),.slice (some ⟨gb,0,none⟩) 8 8] (0,0) _ ?hp ?hg Try.underlying76 rfl (by kernel_rfl)]
     case hp=>rfl
     case hg=>exact set7_at wr rb 76 _ _ _ _ _ _ _ _ _ _ _ _ _ _ HRX2.out
     all_goals rfl
    ·rw [HDO.out]
     exact HQ.out _ (fun b hb=>set7_keep wr rb _ _ _ _ _ _ _ b hb)
end Go.Proofs.Yteghpophcnehgaa
