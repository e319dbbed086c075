/-
  One text of a symbolic evaluator over the model, shown sound once for every program: no statement is claimed here.
-/
import Derived.Test.YthfaoceleaaepaaGreatDoorRqQ
import Derived.Lib.Bytealg
import Derived.Lib.Atoi
import Derived.Lib.ConvBytes
namespace Go.Rn
variable {ρ:Nat→Int} {P:Program}
/-! functions of strings that are told: how often a byte stands in a string,where it stands first -/
noncomputable def cntL (b:Nat) (l:List Nat):Nat:=@List.rec Nat (fun _=>Nat) 0 (fun x _ ih=>bf (Nat.beq x b) (Nat.succ ih) ih) l
noncomputable def idxL (b:Nat) (l:List Nat):Nat→Int:=@List.rec Nat (fun _=>Nat→Int) (fun _=>Int.negSucc 0) (fun x _ ih i=>bf (Nat.beq x b) (Int.ofNat i) (ih (Nat.succ i))) l
noncomputable def cntO (f:Nat):Nat→RV→Option RV:=fun f' c=>bf (Nat.beq f' f) (gN none c none fun x r=>gN none r none fun y q=>gN none q (gS none x fun l=>gS none y fun s=>@List.rec Nat (fun _=>Option RV) none (fun b t _=>@List.rec Nat (fun _=>Option RV) (some (.i .i64 (Int.ofNat (cntL b l)))) (fun _ _ _=>none) t) s) fun _ _=>none) none
noncomputable def idxO (f:Nat):Nat→RV→Option RV:=fun f' c=>bf (Nat.beq f' f) (gN none c none fun x r=>gN none r none fun y q=>gN none q (gS none x fun l=>gI none y fun k z=>bf (eqK k .u8) (bf (nonI z) (bf (Nat.ble (natI z) 255) (some (.i .i64 (idxL (natI z) l 0))) none) none) none) fun _ _=>none) none
theorem ofNat_beq {x b:Nat} (hx:x < 256) (hb:b < 256):(UInt8.ofNat x == UInt8.ofNat b)=Nat.beq x b:=by
 have:(UInt8.ofNat x=UInt8.ofNat b) ↔ x=b:=by
  constructor
  ·intro h
   have h1:=congrArg UInt8.toNat h
   simp only [UInt8.toNat_ofNat'] at h1
   omega
  ·rintro rfl; rfl
 have h2:(Nat.beq x b=true) ↔ x=b:=by simp
 rw [Bool.eq_iff_iff,h2,beq_iff_eq,this]
theorem cntL_ok {b:Nat} (hb:b < 256):∀ {l:List Nat},(∀ x ∈ l,x < 256)→Lib.countByte (l.map UInt8.ofNat) (UInt8.ofNat b)=cntL b l
 | [],_=>rfl
 | x::l,h=>by
  have ih:=cntL_ok hb (l:=l) fun y hy=>h y (List.mem_cons_of_mem _ hy)
  have h1:=ofNat_beq (h x List.mem_cons_self) hb
  have e:cntL b (x::l)=bf (Nat.beq x b) (Nat.succ (cntL b l)) (cntL b l):=rfl
  rw [e,← ih]
  unfold Lib.countByte at *
  rw [List.map_cons,List.count_cons,h1]
  cases Nat.beq x b <;> rfl
theorem index_cons (a:UInt8) (l:List UInt8) (c:UInt8):Lib.indexByte (a::l) c=if (a == c)=true then 0 else if (Lib.indexByte l c == -1)=true then -1 else Lib.indexByte l c + 1:=rfl
theorem idxL_ok {b:Nat} (hb:b < 256):∀ {l:List Nat} (i:Nat),(∀ x ∈ l,x < 256)→idxL b l i=if Lib.indexByte (l.map UInt8.ofNat) (UInt8.ofNat b)=-1 then -1 else Lib.indexByte (l.map UInt8.ofNat) (UInt8.ofNat b) + i
 | [],i,_=>rfl
 | x::l,i,h=>by
  have ih:=idxL_ok hb (l:=l) (i + 1) fun y hy=>h y (List.mem_cons_of_mem _ hy)
  have h1:=ofNat_beq (h x List.mem_cons_self) hb
  have hge:=Lib.indexByte_ge (l.map UInt8.ofNat) (UInt8.ofNat b)
  have e:idxL b (x::l) i=bf (Nat.beq x b) (Int.ofNat i) (idxL b l (i + 1)):=rfl
  rw [e,ih,List.map_cons,index_cons,h1]
  cases Nat.beq x b with
  | true=>show (Int.ofNat i:Int)=_; simp
  | false=>
   obtain ⟨I,hI⟩:∃ I,I=Lib.indexByte (l.map UInt8.ofNat) (UInt8.ofNat b):=⟨_,rfl⟩
   rw [← hI] at hge ⊢
   show (if I=-1 then (-1:Int) else I + ((i + 1:Nat):Int))=_
   by_cases hm:I=-1
   ·subst hm; rfl
   ·have hm2:(I == -1)=false:=by simp [hm]
    rw [if_neg hm]
    simp only [Bool.false_eq_true,if_false,hm2]
    rw [if_neg (by omega)]; omega
theorem cnt_ok {f:Nat} (hk:known P f=true) (hp:∀ (s:ByteArray) (b:UInt8) (w:World),Calls P f #[.string s,.string ⟨#[b]⟩] w fun e w'=>e=.returned (.int .i64 (Lib.countByte s.data.toList b))∧Old w w'):OrcOk P ρ (cntO f):=by
 intro f' c v h
 unfold cntO at h
 obtain ⟨h1,h2⟩:=bf_ok h (by simp)
 have hf:=beq_ok h1
 subst hf
 refine ⟨hk,fun m w vs hd=>?_⟩
 rcases gN_ok h2 (by simp) with ⟨_,h3⟩ | ⟨x,r,rfl,h3⟩
 ·cases h3
 rcases gN_ok h3 (by simp) with ⟨_,h4⟩ | ⟨y,q,rfl,h4⟩
 ·cases h4
 rcases gN_ok h4 (by simp) with ⟨rfl,h5⟩ | ⟨_,_,_,h5⟩
 ·obtain ⟨l,rfl,h6⟩:=gS_ok h5 (by simp)
  obtain ⟨s,rfl,h7⟩:=gS_ok h6 (by simp)
  cases s with
  | nil=>cases h7
  | cons b t=>
   cases t with
   | cons _ _=>cases h7
   | nil=>
    have h8:some (RV.i .i64 (Int.ofNat (cntL b l)))=some v:=h7
    cases h8
    obtain ⟨u,us,rfl,q1,q2⟩:=denC_cons.1 hd
    obtain ⟨u2,us2,rfl,q3,q4⟩:=denC_cons.1 q2
    have:=denC_nil.1 q4
    subst this
    have e1:u=.string ⟨(l.map UInt8.ofNat).toArray⟩∧∀ x ∈ l,x < 256:=q1
    have e2:u2=.string ⟨([b].map UInt8.ofNat).toArray⟩∧∀ x ∈ [b],x < 256:=q3
    obtain ⟨rfl,hl⟩:=e1
    obtain ⟨rfl,hb⟩:=e2
    have hb:b < 256:=hb b List.mem_cons_self
    refine (hp ⟨(l.map UInt8.ofNat).toArray⟩ (UInt8.ofNat b) w).mono ?_
    rintro e w' ⟨rfl,ho⟩
    refine ⟨_,rfl,ho,?_⟩
    show Value.int .i64 (Lib.countByte (l.map UInt8.ofNat) (UInt8.ofNat b))=.int .i64 (Int.ofNat (cntL b l))
    rw [cntL_ok hb hl]; rfl
 ·cases h5
theorem idx_ok {f:Nat} (hk:known P f=true) (hp:∀ (s:ByteArray) (z:Int) (w:World),0≤z→z < 256→Calls P f #[.string s,.int .u8 z] w fun e w'=>e=.returned (.int .i64 (Lib.indexByte s.data.toList z.toNat.toUInt8))∧Old w w'):OrcOk P ρ (idxO f):=by
 intro f' c v h
 unfold idxO at h
 obtain ⟨h1,h2⟩:=bf_ok h (by simp)
 have hf:=beq_ok h1
 subst hf
 refine ⟨hk,fun m w vs hd=>?_⟩
 rcases gN_ok h2 (by simp) with ⟨_,h3⟩ | ⟨x,r,rfl,h3⟩
 ·cases h3
 rcases gN_ok h3 (by simp) with ⟨_,h4⟩ | ⟨y,q,rfl,h4⟩
 ·cases h4
 rcases gN_ok h4 (by simp) with ⟨rfl,h5⟩ | ⟨_,_,_,h5⟩
 ·obtain ⟨l,rfl,h6⟩:=gS_ok h5 (by simp)
  obtain ⟨k,z,rfl,h7⟩:=gI_ok h6 (by simp)
  obtain ⟨c1,h8⟩:=bf_ok h7 (by simp)
  obtain ⟨c2,h9⟩:=bf_ok h8 (by simp)
  obtain ⟨c3,h10⟩:=bf_ok h9 (by simp)
  cases h10
  obtain rfl:=eqK_ok c1
  obtain ⟨u,us,rfl,q1,q2⟩:=denC_cons.1 hd
  obtain ⟨u2,us2,rfl,q3,q4⟩:=denC_cons.1 q2
  have:=denC_nil.1 q4
  subst this
  have e1:u=.string ⟨(l.map UInt8.ofNat).toArray⟩∧∀ x ∈ l,x < 256:=q1
  obtain ⟨rfl,hl⟩:=e1
  have e2:u2=.int .u8 z:=q3
  subst e2
  have hz:=nonI_ok c2
  have hb:natI z < 256:=by have:=Nat.le_of_ble_eq_true c3; omega
  refine (hp ⟨(l.map UInt8.ofNat).toArray⟩ z w (by omega) (by omega)).mono ?_
  rintro e w' ⟨rfl,ho⟩
  refine ⟨_,rfl,ho,?_⟩
  show Value.int .i64 (Lib.indexByte (l.map UInt8.ofNat) z.toNat.toUInt8)=.int .i64 (idxL (natI z) l 0)
  rw [idxL_ok hb 0 hl]
  have:z.toNat.toUInt8=UInt8.ofNat (natI z):=by congr 1; omega
  rw [this]
  split
  ·rename_i h; rw [h]
  ·simp
 ·cases h5
noncomputable def decL (l:List Nat):Nat→Option Nat:=@List.rec Nat (fun _=>Nat→Option Nat) (fun a=>some a) (fun x _ ih a=>bf (Nat.ble 48 x) (bf (Nat.ble x 57) (ih (Nat.add (Nat.mul a 10) (Nat.sub x 48))) none) none) l
noncomputable def atoiO (f:Nat):Nat→RV→Option RV:=fun f' c=>bf (Nat.beq f' f) (gN none c none fun x r=>gN none r (gS none x fun l=>bf (Nat.ble 1 l.length) (bf (Nat.ble l.length 18) (gO none (decL l 0) fun n=>some (.tup (.cons (.i .i64 (Int.ofNat n)) (.cons (.fn 33554432 .nil) .nil)))) none) none) fun _ _=>none) none
theorem decL_ok:∀ {l:List Nat} {a n:Nat},(∀ x ∈ l,x < 256)→decL l a=some n→Lib.decFrom a (l.map UInt8.ofNat)=some n
 | [],_,_,_,h=>h
 | x::l,a,n,hl,h=>by
  have h':bf (Nat.ble 48 x) (bf (Nat.ble x 57) (decL l (a * 10 + (x - 48))) none) none=some n:=h
  obtain ⟨h1,h2⟩:=bf_ok h' (by simp)
  obtain ⟨h3,h4⟩:=bf_ok h2 (by simp)
  have ih:=decL_ok (fun y hy=>hl y (List.mem_cons_of_mem _ hy)) h4
  have hx:=hl x List.mem_cons_self
  have e1:(UInt8.ofNat x).toNat=x:=by simp only [UInt8.toNat_ofNat']; omega
  have e2:Lib.digitVal (UInt8.ofNat x)=some (x - 48):=by
   unfold Lib.digitVal
   rw [e1,if_pos ⟨Nat.le_of_ble_eq_true h1,Nat.le_of_ble_eq_true h3⟩]
  rw [List.map_cons]
  show (match Lib.digitVal (UInt8.ofNat x) with | some d=>Lib.decFrom (a * 10 + d) (l.map UInt8.ofNat) | none=>none)=some n
  rw [e2]; exact ih
theorem atoi_ok {f:Nat} (hk:known P f=true) (hp:∀ (s:ByteArray) (n:Nat) (w:World),0 < s.size→s.size≤18→Lib.decFrom 0 s.data.toList=some n→Calls P f #[.string s] w fun e w'=>e=.returned (.tuple #[.int .i64 n,.nilIface])∧Old w w'):OrcOk P ρ (atoiO f):=by
 intro f' c v h
 unfold atoiO at h
 obtain ⟨h1,h2⟩:=bf_ok h (by simp)
 have hf:=beq_ok h1
 subst hf
 refine ⟨hk,fun m w vs hd=>?_⟩
 rcases gN_ok h2 (by simp) with ⟨_,h3⟩ | ⟨x,r,rfl,h3⟩
 ·cases h3
 rcases gN_ok h3 (by simp) with ⟨rfl,h5⟩ | ⟨_,_,_,h5⟩
 ·obtain ⟨l,rfl,h6⟩:=gS_ok h5 (by simp)
  obtain ⟨c1,h7⟩:=bf_ok h6 (by simp)
  obtain ⟨c2,h8⟩:=bf_ok h7 (by simp)
  obtain ⟨n,h9,h10⟩:=gO_ok h8 (by simp)
  cases h10
  obtain ⟨u,us,rfl,q1,q2⟩:=denC_cons.1 hd
  have:=denC_nil.1 q2
  subst this
  have e1:u=.string ⟨(l.map UInt8.ofNat).toArray⟩∧∀ x ∈ l,x < 256:=q1
  obtain ⟨rfl,hl⟩:=e1
  have hs:(⟨(l.map UInt8.ofNat).toArray⟩:ByteArray).size=l.length:=by simp [ByteArray.size]
  refine (hp ⟨(l.map UInt8.ofNat).toArray⟩ n w (by rw [hs]; exact Nat.le_of_ble_eq_true c1) (by rw [hs]; exact Nat.le_of_ble_eq_true c2) (decL_ok hl h9)).mono ?_
  rintro e w' ⟨rfl,ho⟩
  exact ⟨_,rfl,ho,[.int .i64 n,.nilIface],denC_cons.2 ⟨_,_,rfl,rfl,denC_cons.2 ⟨_,_,rfl,⟨[],denC_nil.2 rfl,(fnV_nil (Nat.le_refl _)).symm⟩,denC_nil.2 rfl⟩⟩,rfl⟩
 ·cases h5
theorem bytesWorld_old {w:World} {e:TypeId} {s:ByteArray}:Old w (Lib.bytesWorld w e s):=
 ⟨rfl,rfl,rfl,by rw [Lib.bytesWorld_size]; omega,fun k hk=>Lib.bytesWorld_at_old w e s k hk⟩
end Go.Rn
