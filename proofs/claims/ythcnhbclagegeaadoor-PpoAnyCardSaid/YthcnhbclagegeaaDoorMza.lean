/-
  awake() of exegesis/exegesislaw19.awake is true in every world where the Zvm lies in its variable. Conditions: none but Zcj that the theorems print.
-/
import Derived.Test.YthcnhbclagegeaaDoorMz
import Derived.Test.YthcnhbclagegeaaDoorRqM
import Derived.Test.YthcnhbclagegeaaDoorRnZg
import Derived.WalkKit
import Derived.ProofKit
import Derived.Lib.Hide
namespace Go.Proofs.YthcnhbclagegeaaDoor.awP
open Go.Rn Go.RowKit YthcnhbclagegeaaDoor.txt
noncomputable def kch:RV:=.cons (.i .u8 0) (.cons (.i .u8 1) (.cons (.i .u8 56) (.cons (.i .u8 2) (.cons (.i .u8 57) (.cons (.i .u8 49) (.cons (.i .u8 28) (.cons (.i .u8 3) (.cons (.i .u8 61) (.cons (.i .u8 58) (.cons (.i .u8 42) (.cons (.i .u8 50) (.cons (.i .u8 38) (.cons (.i .u8 29) (.cons (.i .u8 17) (.cons (.i .u8 4) (.cons (.i .u8 62) (.cons (.i .u8 47) (.cons (.i .u8 59) (.cons (.i .u8 36) (.cons (.i .u8 45) (.cons (.i .u8 43) (.cons (.i .u8 51) (.cons (.i .u8 22) (.cons (.i .u8 53) (.cons (.i .u8 39) (.cons (.i .u8 33) (.cons (.i .u8 30) (.cons (.i .u8 24) (.cons (.i .u8 18) (.cons (.i .u8 12) (.cons (.i .u8 5) (.cons (.i .u8 63) (.cons (.i .u8 55) (.cons (.i .u8 48) (.cons (.i .u8 27) (.cons (.i .u8 60) (.cons (.i .u8 41) (.cons (.i .u8 37) (.cons (.i .u8 16) (.cons (.i .u8 46) (.cons (.i .u8 35) (.cons (.i .u8 44) (.cons (.i .u8 21) (.cons (.i .u8 52) (.cons (.i .u8 32) (.cons (.i .u8 23) (.cons (.i .u8 11) (.cons (.i .u8 54) (.cons (.i .u8 26) (.cons (.i .u8 40) (.cons (.i .u8 15) (.cons (.i .u8 34) (.cons (.i .u8 20) (.cons (.i .u8 31) (.cons (.i .u8 10) (.cons (.i .u8 25) (.cons (.i .u8 14) (.cons (.i .u8 19) (.cons (.i .u8 9) (.cons (.i .u8 13) (.cons (.i .u8 8) (.cons (.i .u8 7) (.cons (.i .u8 6) (.nil))))))))))))))))))))))))))))))))))))))))))))))))))))))))))))))))
noncomputable def kv:List Value:=[.int .u8 0,.int .u8 1,.int .u8 56,.int .u8 2,.int .u8 57,.int .u8 49,.int .u8 28,.int .u8 3,.int .u8 61,.int .u8 58,.int .u8 42,.int .u8 50,.int .u8 38,.int .u8 29,.int .u8 17,.int .u8 4,.int .u8 62,.int .u8 47,.int .u8 59,.int .u8 36,.int .u8 45,.int .u8 43,.int .u8 51,.int .u8 22,.int .u8 53,.int .u8 39,.int .u8 33,.int .u8 30,.int .u8 24,.int .u8 18,.int .u8 12,.int .u8 5,.int .u8 63,.int .u8 55,.int .u8 48,.int .u8 27,.int .u8 60,.int .u8 41,.int .u8 37,.int .u8 16,.int .u8 46,.int .u8 35,.int .u8 44,.int .u8 21,.int .u8 52,.int .u8 32,.int .u8 23,.int .u8 11,.int .u8 54,.int .u8 26,.int .u8 40,.int .u8 15,.int .u8 34,.int .u8 20,.int .u8 31,.int .u8 10,.int .u8 25,.int .u8 14,.int .u8 19,.int .u8 9,.int .u8 13,.int .u8 8,.int .u8 7,.int .u8 6]
theorem globs:Tryd.prog.globals.size<=100:=of_decide_eq_true (by kernel_rfl)
set_option maxRecDepth 100000 in
theorem Yaf:Zwm kch 0 64 (fun h=>Ztz (fun _ _ _=>none) 100 (inL fsL) (fun _ _=>none) Xfl 60 27 .nil h 100 isT)=.yes:=by kernel_rfl
def KT (w:World):Prop:=∃ C el fr,w.heap[0]?=some (.cells C el fr)/\∀ (j:Nat) (v:Value),kv[j]?=some v->C[j]?=some v
noncomputable def m0 (Z:Nat):Mp:=fun b=>if b=0 then some (0,0,Z) else if b < Tryd.prog.globals.size then some (b,0,0) else none
theorem Yt5 {ρ:Rho} {m:Mp}:Zbg ρ m kch kv:=by
 unfold kch kv
 repeat (first | exact denC_nil.2 rfl | refine denC_cons.2 ⟨_,_,rfl,rfl,?_⟩)
theorem Ymi:Zav kch=some 64:=by kernel_rfl
theorem Yd5:∀ v ∈ kv,Zek v:=by
 intro v hv
 unfold kv at hv
 simp only [List.mem_cons,List.not_mem_nil,or_false] at hv
 rcases hv with rfl | rfl | rfl | rfl | rfl | rfl | rfl | rfl | rfl | rfl | rfl | rfl | rfl | rfl | rfl | rfl | rfl | rfl | rfl | rfl | rfl | rfl | rfl | rfl | rfl | rfl | rfl | rfl | rfl | rfl | rfl | rfl | rfl | rfl | rfl | rfl | rfl | rfl | rfl | rfl | rfl | rfl | rfl | rfl | rfl | rfl | rfl | rfl | rfl | rfl | rfl | rfl | rfl | rfl | rfl | rfl | rfl | rfl | rfl | rfl | rfl | rfl | rfl | rfl <;> rfl
theorem Ydt:0 < Tryd.prog.globals.size:=of_decide_eq_true (by kernel_rfl)
theorem awake_ok (w:World) (hK:KT w):Calls Tryd.prog 27 #[] w fun e w'=>e=.returned (.bool true)/\Old w w':=by
 obtain ⟨C,el,fr,hB,hv⟩:=hK
 have hg:=globs
 have h1:=Ydt
 have s:Sim Tryd.prog (Rho.of fun _=>0) (m0 C.size) 100 (hst he (.bk (lay kch ce 0) 64) 0) w:=Ykq hB Ymi Yt5 Yd5 hv (by unfold m0; rw [if_pos rfl]) (by omega) (by decide) rfl
 exact Yd3 (ρ:=Rho.of fun _=>0) Xaf (Zge fsL_ok) Zey (kc:=Xfl) (fun _ _ _ h=>by cases h) (n:=100) (g:=100) (m0:=m0 C.size) (Nat.le_refl _) (fun b c z hb=>by
  rcases Za6 he (.bk (lay kch ce 0) 64) 0 b with ⟨q,_⟩ | ⟨_,q⟩
  ·omega
  ·rw [q,Zk4] at hb; cases hb) s (fun b hb=>by
  by_cases hb0:b=0
  ·subst hb0; exact ⟨C.size,by unfold m0; rw [if_pos rfl]⟩
  ·exact ⟨0,by unfold m0; rw [if_neg hb0,if_pos hb]⟩) (fun b hb=>by unfold m0; rw [if_neg (by omega),if_neg (by omega)]) (Zt8 Yaf) (vs:=[]) (denC_nil.2 rfl)
end Go.Proofs.YthcnhbclagegeaaDoor.awP
