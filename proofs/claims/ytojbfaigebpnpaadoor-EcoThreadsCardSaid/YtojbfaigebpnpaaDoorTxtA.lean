/-
  The functions that some laws reach, in the evaluator's own form, and that this is what the program's text becomes. Conditions: none; these are closed facts.
-/
import Derived.Test.YtojbfaigebpnpaaDoorTxtP0
import Derived.Test.YtojbfaigebpnpaaDoorTxtP1
namespace Go.Proofs.YtojbfaigebpnpaaDoor.txt
open Go.Rn
def fsL:List (Nat × RF):=[(3,rc3),(4,rc4),(5,rc5),(6,rc6),(7,rc7),(8,rc8),(9,rc9),(10,rc10),(11,rc11),(12,rc12),(13,rc13),(14,rc14),(15,rc15),(16,rc16),(17,rc17),(18,rc18),(19,rc19),(20,rc20),(21,rc21),(22,rc22),(23,rc23),(24,rc24),(25,rc25),(26,rc26),(27,rc27),(28,rc28),(29,rc29),(30,rc30),(31,rc31),(32,rc32),(33,rc33),(34,rc34),(35,rc35),(36,rc36)]
theorem fsL_ok:∀ e ∈ fsL,compF Tryd.prog e.1=some e.2:=by
 unfold fsL
 refine List.forall_mem_cons.2 ⟨rc3_ok,?_⟩
 refine List.forall_mem_cons.2 ⟨rc4_ok,?_⟩
 refine List.forall_mem_cons.2 ⟨rc5_ok,?_⟩
 refine List.forall_mem_cons.2 ⟨rc6_ok,?_⟩
 refine List.forall_mem_cons.2 ⟨rc7_ok,?_⟩
 refine List.forall_mem_cons.2 ⟨rc8_ok,?_⟩
 refine List.forall_mem_cons.2 ⟨rc9_ok,?_⟩
 refine List.forall_mem_cons.2 ⟨rc10_ok,?_⟩
 refine List.forall_mem_cons.2 ⟨rc11_ok,?_⟩
 refine List.forall_mem_cons.2 ⟨rc12_ok,?_⟩
 refine List.forall_mem_cons.2 ⟨rc13_ok,?_⟩
 refine List.forall_mem_cons.2 ⟨rc14_ok,?_⟩
 refine List.forall_mem_cons.2 ⟨rc15_ok,?_⟩
 refine List.forall_mem_cons.2 ⟨rc16_ok,?_⟩
 refine List.forall_mem_cons.2 ⟨rc17_ok,?_⟩
 refine List.forall_mem_cons.2 ⟨rc18_ok,?_⟩
 refine List.forall_mem_cons.2 ⟨rc19_ok,?_⟩
 refine List.forall_mem_cons.2 ⟨rc20_ok,?_⟩
 refine List.forall_mem_cons.2 ⟨rc21_ok,?_⟩
 refine List.forall_mem_cons.2 ⟨rc22_ok,?_⟩
 refine List.forall_mem_cons.2 ⟨rc23_ok,?_⟩
 refine List.forall_mem_cons.2 ⟨rc24_ok,?_⟩
 refine List.forall_mem_cons.2 ⟨rc25_ok,?_⟩
 refine List.forall_mem_cons.2 ⟨rc26_ok,?_⟩
 refine List.forall_mem_cons.2 ⟨rc27_ok,?_⟩
 refine List.forall_mem_cons.2 ⟨rc28_ok,?_⟩
 refine List.forall_mem_cons.2 ⟨rc29_ok,?_⟩
 refine List.forall_mem_cons.2 ⟨rc30_ok,?_⟩
 refine List.forall_mem_cons.2 ⟨rc31_ok,?_⟩
 refine List.forall_mem_cons.2 ⟨rc32_ok,?_⟩
 refine List.forall_mem_cons.2 ⟨rc33_ok,?_⟩
 refine List.forall_mem_cons.2 ⟨rc34_ok,?_⟩
 refine List.forall_mem_cons.2 ⟨rc35_ok,?_⟩
 refine List.forall_mem_cons.2 ⟨rc36_ok,?_⟩
 exact fun _ h=>(by cases h)
end Go.Proofs.YtojbfaigebpnpaaDoor.txt
