/-
  strings.Count at a string of one byte and the index of a byte in a string, by the model's own entries. Conditions: none but those that the theorems print.
-/
import Derived.Test.YthfaoceleaaepaaGreatDoorProg
import Derived.Test.YthfaoceleaaepaaGreatDoorRqR
import Derived.WalkKit
import Derived.Lib.ItoaWalk
import Derived.Lib.Strings
import Derived.Lib.Walk
import Derived.Lib.Hide
import Derived.Laws.Strings3
import Derived.BigCall
import Derived.BigGuard
namespace Go.Proofs.YthfaoceleaaepaaGreatDoor.told
open Go.Rn Go.RowKit Go.Lib Go.Proofs
theorem knownC:known Tryz.prog 176=true:=by kernel_rfl
theorem knownI:known Tryz.prog 50=true:=by kernel_rfl
theorem cntx (s:ByteArray) (b:Int) (w:World):(callFunc 274 #[.string s,.int .u8 b]).run Tryz.prog w=.ok (.value (.int .i64 (Lib.countByte s.data.toList b.toNat.toUInt8))) w:=by
 rw [run_callFunc_extern Tryz.func274 (by kernel_rfl) (by kernel_rfl) (by kernel_rfl) (e:=Extern.BytealgCount.count) (by kernel_rfl),Lib.run_countString]
 rfl
theorem idxx (s:ByteArray) (b:Int) (w:World):(callFunc 98 #[.string s,.int .u8 b]).run Tryz.prog w=.ok (.value (.int .i64 (Lib.indexByte s.data.toList b.toNat.toUInt8))) w:=by
 rw [run_callFunc_extern Tryz.func98 (by kernel_rfl) (by kernel_rfl) (by kernel_rfl) (e:=Extern.BytealgIndexByte.indexByte) (by kernel_rfl),Lib.run_indexByteString]
 rfl
set_option maxRecDepth 100000 in
theorem cnt (s:ByteArray) (b:UInt8) (w:World):Calls Tryz.prog 176 #[.string s,.string ⟨#[b]⟩] w fun e w'=>e=.returned (.int .i64 (Lib.countByte s.data.toList b))∧Old w w':=by
 have h:=cntx s
 have h1:(ByteArray.mk #[b]).size=1:=rfl
 have h2:(ByteArray.mk #[b])[0]! = b:=rfl
 go_enter Tryz.func176,Tryz.ntmps176
 go_wp2_with (simp only [h])
 go_ret
 exact ⟨rfl,Old.refl _⟩
set_option maxRecDepth 100000 in
theorem idx (s:ByteArray) (z:Int) (w:World) (_:0≤z) (_:z < 256):Calls Tryz.prog 50 #[.string s,.int .u8 z] w fun e w'=>e=.returned (.int .i64 (Lib.indexByte s.data.toList z.toNat.toUInt8))∧Old w w':=by
 have h:=idxx s
 go_enter Tryz.func50,Tryz.ntmps50
 go_wp2_with (simp only [h])
 go_ret
 exact ⟨rfl,Old.refl _⟩
theorem knownA:known Tryz.prog 162=true:=by kernel_rfl
theorem mixedA:Tryz.prog.follows Departure.mixedOrders=true:=by kernel_rfl
set_option maxHeartbeats 6400000 in
set_option maxRecDepth 100000 in
theorem atoi (s:ByteArray) (m:Nat) (w:World) (hpos:0 < s.size) (hl:s.size≤18) (hm:Lib.decFrom 0 s.data.toList=some m):Calls Tryz.prog 162 #[.string s] w fun e w'=>e=.returned (.tuple #[.int .i64 m,.nilIface])∧Old w w':=by
 have mixed:=mixedA
 obtain ⟨b0,hb0⟩:∃ b,b=s[0]'hpos:=⟨_,rfl⟩
 have hs0:=hb0.symm
 have hx0:s.data.toList[0]?=some b0:=by
  rw [hb0,List.getElem?_eq_getElem (by rw [← Lib.size_eq]; exact hpos)]; rfl
 obtain ⟨d0,hd0⟩:=Lib.digit_of_decFrom _ 0 m hm 0 b0 hx0
 obtain ⟨g48,g57,_⟩:=Lib.digitVal_eq hd0
 have h45:((b0.toNat:Int) == 45)=false:=beq_eq_false_iff_ne.2 fun e=>by omega
 have h43:((b0.toNat:Int) == 43)=false:=beq_eq_false_iff_ne.2 fun e=>by omega
 clear hb0 hx0 hd0
 have hcv:=Lib.run_convert_string_bytes (P:=Tryz.prog) w 9 39 5 s (u:=.string) (by kernel_rfl) (by kernel_rfl) (by kernel_rfl)
 have hB:∀ j,j < s.size→(Lib.bytesWorld w 5 s).cell? ⟨w.heap.size,j,none⟩=some (.int .u8 (s.data.toList.getD j 0).toNat):=fun j hj=>Lib.bytesWorld_cell w 5 s j hj
 have hO:Old w (Lib.bytesWorld w 5 s):=bytesWorld_old
 obtain ⟨W1,hW1⟩:∃ W1,W1=Lib.bytesWorld w 5 s:=⟨_,rfl⟩
 rw [← hW1] at hcv hB hO
 have HO:=Lib.hid hO
 have HB:=Lib.hid hB
 have hm18:=Lib.decFrom_lt18 hm (by rw [← Lib.size_eq]; omega)
 have HM:=Lib.hid hm
 clear hW1 hB hm hO
 go_enter Tryz.func162,Tryz.ntmps162
 go_wp2
 go_loop [49,6] (fun vi vn=>∃ (k acc:Nat),k≤s.size∧vi=.int .i64 k∧vn=.int .i64 acc∧Hid (Lib.decFrom 0 (s.data.toList.take k)=some acc)) (fun vi _=>s.size - (RowKit.intOf vi).toNat)
 case atStart=>exact ⟨0,0,Nat.zero_le _,rfl,rfl,rfl⟩
 case round=>
  obtain ⟨k,acc,hk,rfl,rfl,hacc⟩:=hrel
  by_cases hkn:k < s.size
  ·obtain ⟨x,hx⟩:∃ x,x=s.data.toList.getD k 0:=⟨_,rfl⟩
   have hxk:s.data.toList[k]?=some x:=by
    rw [hx,List.getD,List.getElem?_eq_getElem (by rw [← Lib.size_eq]; exact hkn)]
    rfl
   have hc1:W1.cell? ⟨w.heap.size,k,none⟩=some (.int .u8 x.toNat):=by rw [hx]; exact HB.out k hkn
   obtain ⟨dv,hdv⟩:=Lib.digit_of_decFrom _ 0 m HM.out k x hxk
   obtain ⟨h48,h57,hde⟩:=Lib.digitVal_eq hdv
   have hlt:=Lib.decFrom_take_lt hacc.out (by omega)
   have Hxk:=Lib.hid hxk
   have Hdv:=Lib.hid hdv
   clear hx hxk hdv
   go_wp2
   go_round
   case rel=>exact ⟨k + 1,acc * 10 + dv,by omega,by go_num,by first | go_num | (congr 1; omega),Lib.decFrom_take _ k 0 acc x dv hacc.out Hxk.out Hdv.out⟩
   case measure=>simp [RowKit.intOf]; omega
  ·have hke:k=s.size:=by omega
   subst hke
   have hfin:acc=m:=by
    have h1:=hacc.out
    rw [List.take_of_length_le (by rw [← Lib.size_eq]; exact Nat.le_refl _),HM.out] at h1
    exact (Option.some.inj h1).symm
   subst hfin
   go_wp2
   go_ret2
   exact ⟨rfl,HO.out⟩
theorem told_ok {ρ:Nat→Int}:OrcOk Tryz.prog ρ (orO (orO (cntO 176) (idxO 50)) (atoiO 162)):=or_ok (or_ok (cnt_ok knownC cnt) (idx_ok knownI idx)) (atoi_ok knownA atoi)
end Go.Proofs.YthfaoceleaaepaaGreatDoor.told
