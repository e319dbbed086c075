/-
  What the runner is told of a sheet's words: spelt.
-/
import Derived.Test.YthfaoceleaaepaaGreatDoorShI
import Derived.Test.YthfaoceleaaepaaGreatDoorRqY
namespace Go.Proofs.YthfaoceleaaepaaGreatDoor.sh
open Go.Rn Go.RowKit
noncomputable def exch (b:Nat):Nat:=bf (Nat.beq b 59) 10 (bf (Nat.beq b 95) 32 b)
noncomputable def exchL (l:List Nat):List Nat:=@List.rec Nat (fun _=>List Nat) [] (fun b _ ih=>exch b::ih) l
noncomputable def lenN (l:List Nat):Nat:=@List.rec Nat (fun _=>Nat) 0 (fun _ _ ih=>Nat.succ ih) l
theorem exch_tab (b:Nat):exch b=tab b:=by
 unfold exch tab
 by_cases h:b=59
 ·subst h; rfl
 ·by_cases h2:b=95
  ·subst h2; rfl
  ·rw [if_neg h,if_neg h2]
   have e1:Nat.beq b 59=false:=by
    cases q:Nat.beq b 59 with
    | true=>exact absurd (beq_ok q) h
    | false=>rfl
   have e2:Nat.beq b 95=false:=by
    cases q:Nat.beq b 95 with
    | true=>exact absurd (beq_ok q) h2
    | false=>rfl
   rw [e1,e2]
   rfl
theorem exchL_map:∀ l,exchL l=l.map tab
 | []=>rfl
 | b::l=>by
  show exch b::exchL l=_
  rw [exchL_map l,exch_tab]
  rfl
theorem lenN_eq:∀ l,lenN l=l.length
 | []=>rfl
 | _::l=>by
  show Nat.succ (lenN l)=_
  rw [lenN_eq l]
  rfl
noncomputable def speltO (f:Nat):Nat→RV→Option RV:=fun f' c=>bf (Nat.beq f' f) (gN none c none fun x r=>gN none r (gS none x fun l=>bf (Nat.ble (lenN l) 1000000) (some (.s (exchL l))) none) fun _ _=>none) none
theorem knownS:known Tryz.prog 16=true:=by kernel_rfl
theorem rep_bytes (l:List Nat) (h:∀ x ∈ l,x < 256):rep tab ⟨(l.map UInt8.ofNat).toArray⟩=⟨((l.map tab).map UInt8.ofNat).toArray⟩:=by
 unfold rep repl
 simp only [List.map_map]
 congr 2
 apply List.map_congr_left
 intro x hx
 have:=h x hx
 show UInt8.ofNat (tab (UInt8.ofNat x).toNat)=UInt8.ofNat (tab x)
 rw [UInt8.toNat_ofNat',Nat.mod_eq_of_lt (by omega)]
variable {ρ:Nat→Int}
theorem spelt_ok:OrcOk Tryz.prog ρ (speltO 16):=by
 intro f' c v h
 unfold speltO at h
 obtain ⟨h1,h2⟩:=bf_ok h (by simp)
 have hf:=beq_ok h1
 subst hf
 refine ⟨knownS,fun m w vs hd=>?_⟩
 rcases gN_ok h2 (by simp) with ⟨_,h3⟩ | ⟨x,r,rfl,h3⟩
 ·cases h3
 rcases gN_ok h3 (by simp) with ⟨rfl,h5⟩ | ⟨_,_,_,h5⟩
 ·obtain ⟨l,rfl,h6⟩:=gS_ok h5 (by simp)
  obtain ⟨h7,h8⟩:=bf_ok h6 (by simp)
  cases h8
  obtain ⟨u,us,rfl,q1,q2⟩:=denC_cons.1 hd
  have:=denC_nil.1 q2
  subst this
  have e1:u=.string ⟨(l.map UInt8.ofNat).toArray⟩∧∀ x ∈ l,x < 256:=q1
  obtain ⟨rfl,e2⟩:=e1
  have hl:l.length≤1000000:=by rw [← lenN_eq]; exact ble_ok h7
  refine (spelt_any ⟨(l.map UInt8.ofNat).toArray⟩ w (by simpa [ByteArray.size] using hl)).mono ?_
  rintro e w' ⟨rfl,hb⟩
  refine ⟨_,rfl,⟨hb.os,hb.tape,hb.output,hb.size,hb.block⟩,?_⟩
  show _=_∧_
  refine ⟨by rw [rep_bytes l e2,exchL_map],fun y hy=>?_⟩
  rw [exchL_map] at hy
  obtain ⟨x,hx,rfl⟩:=List.mem_map.1 hy
  exact tab_lt x (e2 x hx)
 ·cases h5
end Go.Proofs.YthfaoceleaaepaaGreatDoor.sh
