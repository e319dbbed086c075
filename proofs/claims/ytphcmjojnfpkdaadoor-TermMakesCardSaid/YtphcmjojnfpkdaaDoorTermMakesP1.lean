/-
  The law TermMakes at some of its cases: the run over the program ends in true. Conditions: none; these are closed facts.
-/
import Derived.Test.YtphcmjojnfpkdaaDoorTermMakesA
namespace Go.Proofs.YtphcmjojnfpkdaaDoor.termMakesq
open Go.Rn YtphcmjojnfpkdaaDoor.txt
set_option maxHeartbeats 400000000
theorem c1_fff : run1 false false false = .yes := by kernel_rfl
theorem c1_fft : run1 false false true = .yes := by kernel_rfl
theorem c1_ftf : run1 false true false = .yes := by kernel_rfl
theorem c1_ftt : run1 false true true = .yes := by kernel_rfl
theorem c1_tff : run1 true false false = .yes := by kernel_rfl
theorem c1_tft : run1 true false true = .yes := by kernel_rfl
theorem c1_ttf : run1 true true false = .yes := by kernel_rfl
theorem c1_ttt : run1 true true true = .yes := by kernel_rfl
theorem c2_fff : run2 false false false = .yes := by kernel_rfl
theorem c2_fft : run2 false false true = .yes := by kernel_rfl
theorem c2_ftf : run2 false true false = .yes := by kernel_rfl
theorem c2_ftt : run2 false true true = .yes := by kernel_rfl
theorem c2_tff : run2 true false false = .yes := by kernel_rfl
theorem c2_tft : run2 true false true = .yes := by kernel_rfl
theorem c2_ttf : run2 true true false = .yes := by kernel_rfl
theorem c2_ttt : run2 true true true = .yes := by kernel_rfl
theorem c3_fffff : run3 false false false false false = .yes := by kernel_rfl
theorem c3_fffft : run3 false false false false true = .yes := by kernel_rfl
theorem c3_ffftf : run3 false false false true false = .yes := by kernel_rfl
theorem c3_ffftt : run3 false false false true true = .yes := by kernel_rfl
theorem c3_fftff : run3 false false true false false = .yes := by kernel_rfl
theorem c3_fftft : run3 false false true false true = .yes := by kernel_rfl
theorem c3_ffttf : run3 false false true true false = .yes := by kernel_rfl
theorem c3_ffttt : run3 false false true true true = .yes := by kernel_rfl
theorem c3_ftfff : run3 false true false false false = .yes := by kernel_rfl
theorem c3_ftfft : run3 false true false false true = .yes := by kernel_rfl
theorem c3_ftftf : run3 false true false true false = .yes := by kernel_rfl
theorem c3_ftftt : run3 false true false true true = .yes := by kernel_rfl
theorem c3_fttff : run3 false true true false false = .yes := by kernel_rfl
theorem c3_fttft : run3 false true true false true = .yes := by kernel_rfl
theorem c3_ftttf : run3 false true true true false = .yes := by kernel_rfl
theorem c3_ftttt : run3 false true true true true = .yes := by kernel_rfl
theorem c3_tffff : run3 true false false false false = .yes := by kernel_rfl
theorem c3_tffft : run3 true false false false true = .yes := by kernel_rfl
theorem c3_tfftf : run3 true false false true false = .yes := by kernel_rfl
theorem c3_tfftt : run3 true false false true true = .yes := by kernel_rfl
theorem c3_tftff : run3 true false true false false = .yes := by kernel_rfl
theorem c3_tftft : run3 true false true false true = .yes := by kernel_rfl
theorem c3_tfttf : run3 true false true true false = .yes := by kernel_rfl
theorem c3_tfttt : run3 true false true true true = .yes := by kernel_rfl
theorem c3_ttfff : run3 true true false false false = .yes := by kernel_rfl
theorem c3_ttfft : run3 true true false false true = .yes := by kernel_rfl
theorem c3_ttftf : run3 true true false true false = .yes := by kernel_rfl
theorem c3_ttftt : run3 true true false true true = .yes := by kernel_rfl
theorem c3_tttff : run3 true true true false false = .yes := by kernel_rfl
theorem c3_tttft : run3 true true true false true = .yes := by kernel_rfl
theorem c3_ttttf : run3 true true true true false = .yes := by kernel_rfl
theorem c3_ttttt : run3 true true true true true = .yes := by kernel_rfl
theorem all1 : ∀ za zb zx : Bool, run1 za zb zx = .yes
  | false, false, false => c1_fff
  | false, false, true => c1_fft
  | false, true, false => c1_ftf
  | false, true, true => c1_ftt
  | true, false, false => c1_tff
  | true, false, true => c1_tft
  | true, true, false => c1_ttf
  | true, true, true => c1_ttt
theorem all2 : ∀ za zb zx : Bool, run2 za zb zx = .yes
  | false, false, false => c2_fff
  | false, false, true => c2_fft
  | false, true, false => c2_ftf
  | false, true, true => c2_ftt
  | true, false, false => c2_tff
  | true, false, true => c2_tft
  | true, true, false => c2_ttf
  | true, true, true => c2_ttt
theorem all3 : ∀ za zb zx oa ob : Bool, run3 za zb zx oa ob = .yes
  | false, false, false, false, false => c3_fffff
  | false, false, false, false, true => c3_fffft
  | false, false, false, true, false => c3_ffftf
  | false, false, false, true, true => c3_ffftt
  | false, false, true, false, false => c3_fftff
  | false, false, true, false, true => c3_fftft
  | false, false, true, true, false => c3_ffttf
  | false, false, true, true, true => c3_ffttt
  | false, true, false, false, false => c3_ftfff
  | false, true, false, false, true => c3_ftfft
  | false, true, false, true, false => c3_ftftf
  | false, true, false, true, true => c3_ftftt
  | false, true, true, false, false => c3_fttff
  | false, true, true, false, true => c3_fttft
  | false, true, true, true, false => c3_ftttf
  | false, true, true, true, true => c3_ftttt
  | true, false, false, false, false => c3_tffff
  | true, false, false, false, true => c3_tffft
  | true, false, false, true, false => c3_tfftf
  | true, false, false, true, true => c3_tfftt
  | true, false, true, false, false => c3_tftff
  | true, false, true, false, true => c3_tftft
  | true, false, true, true, false => c3_tfttf
  | true, false, true, true, true => c3_tfttt
  | true, true, false, false, false => c3_ttfff
  | true, true, false, false, true => c3_ttfft
  | true, true, false, true, false => c3_ttftf
  | true, true, false, true, true => c3_ttftt
  | true, true, true, false, false => c3_tttff
  | true, true, true, false, true => c3_tttft
  | true, true, true, true, false => c3_ttttf
  | true, true, true, true, true => c3_ttttt
end Go.Proofs.YtphcmjojnfpkdaaDoor.termMakesq
