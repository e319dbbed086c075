/-
  The law TermMakes at some of its cases: the run over the program ends in true. Conditions: none; these are closed facts.
-/
import Derived.Test.YtphcmjojnfpkdaaDoorTermMakesA
namespace Go.Proofs.YtphcmjojnfpkdaaDoor.termMakesq
open Go.Rn YtphcmjojnfpkdaaDoor.txt
set_option maxHeartbeats 400000000
theorem c4_fff : run4 false false false = .yes := by kernel_rfl
theorem c4_fft : run4 false false true = .yes := by kernel_rfl
theorem c4_ftf : run4 false true false = .yes := by kernel_rfl
theorem c4_ftt : run4 false true true = .yes := by kernel_rfl
theorem c4_tff : run4 true false false = .yes := by kernel_rfl
theorem c4_tft : run4 true false true = .yes := by kernel_rfl
theorem c4_ttf : run4 true true false = .yes := by kernel_rfl
theorem c4_ttt : run4 true true true = .yes := by kernel_rfl
theorem c5_fffff : run5 false false false false false = .yes := by kernel_rfl
theorem c5_fffft : run5 false false false false true = .yes := by kernel_rfl
theorem c5_ffftf : run5 false false false true false = .yes := by kernel_rfl
theorem c5_ffftt : run5 false false false true true = .yes := by kernel_rfl
theorem c5_fftff : run5 false false true false false = .yes := by kernel_rfl
theorem c5_fftft : run5 false false true false true = .yes := by kernel_rfl
theorem c5_ffttf : run5 false false true true false = .yes := by kernel_rfl
theorem c5_ffttt : run5 false false true true true = .yes := by kernel_rfl
theorem c5_ftfff : run5 false true false false false = .yes := by kernel_rfl
theorem c5_ftfft : run5 false true false false true = .yes := by kernel_rfl
theorem c5_ftftf : run5 false true false true false = .yes := by kernel_rfl
theorem c5_ftftt : run5 false true false true true = .yes := by kernel_rfl
theorem c5_fttff : run5 false true true false false = .yes := by kernel_rfl
theorem c5_fttft : run5 false true true false true = .yes := by kernel_rfl
theorem c5_ftttf : run5 false true true true false = .yes := by kernel_rfl
theorem c5_ftttt : run5 false true true true true = .yes := by kernel_rfl
theorem c5_tffff : run5 true false false false false = .yes := by kernel_rfl
theorem c5_tffft : run5 true false false false true = .yes := by kernel_rfl
theorem c5_tfftf : run5 true false false true false = .yes := by kernel_rfl
theorem c5_tfftt : run5 true false false true true = .yes := by kernel_rfl
theorem c5_tftff : run5 true false true false false = .yes := by kernel_rfl
theorem c5_tftft : run5 true false true false true = .yes := by kernel_rfl
theorem c5_tfttf : run5 true false true true false = .yes := by kernel_rfl
theorem c5_tfttt : run5 true false true true true = .yes := by kernel_rfl
theorem c5_ttfff : run5 true true false false false = .yes := by kernel_rfl
theorem c5_ttftt : run5 true true false true true = .yes := by kernel_rfl
theorem c5_tttff : run5 true true true false false = .yes := by kernel_rfl
theorem c5_ttttt : run5 true true true true true = .yes := by kernel_rfl
theorem c6_fffff : run6 false false false false false = .yes := by kernel_rfl
theorem c6_fffft : run6 false false false false true = .yes := by kernel_rfl
theorem c6_ffftf : run6 false false false true false = .yes := by kernel_rfl
theorem c6_ffftt : run6 false false false true true = .yes := by kernel_rfl
theorem c6_fftff : run6 false false true false false = .yes := by kernel_rfl
theorem c6_fftft : run6 false false true false true = .yes := by kernel_rfl
theorem c6_ffttf : run6 false false true true false = .yes := by kernel_rfl
theorem c6_ffttt : run6 false false true true true = .yes := by kernel_rfl
theorem c6_ftfff : run6 false true false false false = .yes := by kernel_rfl
theorem c6_ftfft : run6 false true false false true = .yes := by kernel_rfl
theorem c6_ftftf : run6 false true false true false = .yes := by kernel_rfl
theorem c6_ftftt : run6 false true false true true = .yes := by kernel_rfl
theorem c6_fttff : run6 false true true false false = .yes := by kernel_rfl
theorem c6_fttft : run6 false true true false true = .yes := by kernel_rfl
theorem c6_ftttf : run6 false true true true false = .yes := by kernel_rfl
theorem c6_ftttt : run6 false true true true true = .yes := by kernel_rfl
theorem c6_tffff : run6 true false false false false = .yes := by kernel_rfl
theorem c6_tffft : run6 true false false false true = .yes := by kernel_rfl
theorem c6_tfftf : run6 true false false true false = .yes := by kernel_rfl
theorem c6_tfftt : run6 true false false true true = .yes := by kernel_rfl
theorem c6_tftff : run6 true false true false false = .yes := by kernel_rfl
theorem c6_tftft : run6 true false true false true = .yes := by kernel_rfl
theorem c6_tfttf : run6 true false true true false = .yes := by kernel_rfl
theorem c6_tfttt : run6 true false true true true = .yes := by kernel_rfl
theorem c6_ttfff : run6 true true false false false = .yes := by kernel_rfl
theorem c6_ttfft : run6 true true false false true = .yes := by kernel_rfl
theorem c6_ttftf : run6 true true false true false = .yes := by kernel_rfl
theorem c6_ttftt : run6 true true false true true = .yes := by kernel_rfl
theorem c6_tttff : run6 true true true false false = .yes := by kernel_rfl
theorem c6_tttft : run6 true true true false true = .yes := by kernel_rfl
theorem c6_ttttf : run6 true true true true false = .yes := by kernel_rfl
theorem c6_ttttt : run6 true true true true true = .yes := by kernel_rfl
theorem cL : runL = .yes := by kernel_rfl
theorem cH : runH = .yes := by kernel_rfl
theorem all4 : ∀ za zb zx : Bool, run4 za zb zx = .yes
  | false, false, false => c4_fff
  | false, false, true => c4_fft
  | false, true, false => c4_ftf
  | false, true, true => c4_ftt
  | true, false, false => c4_tff
  | true, false, true => c4_tft
  | true, true, false => c4_ttf
  | true, true, true => c4_ttt
theorem all5 : ∀ za zb eab ebv eav : Bool, (za = true → zb = true → ebv = eav) → run5 za zb eab ebv eav = .yes
  | false, false, false, false, false, _ => c5_fffff
  | false, false, false, false, true, _ => c5_fffft
  | false, false, false, true, false, _ => c5_ffftf
  | false, false, false, true, true, _ => c5_ffftt
  | false, false, true, false, false, _ => c5_fftff
  | false, false, true, false, true, _ => c5_fftft
  | false, false, true, true, false, _ => c5_ffttf
  | false, false, true, true, true, _ => c5_ffttt
  | false, true, false, false, false, _ => c5_ftfff
  | false, true, false, false, true, _ => c5_ftfft
  | false, true, false, true, false, _ => c5_ftftf
  | false, true, false, true, true, _ => c5_ftftt
  | false, true, true, false, false, _ => c5_fttff
  | false, true, true, false, true, _ => c5_fttft
  | false, true, true, true, false, _ => c5_ftttf
  | false, true, true, true, true, _ => c5_ftttt
  | true, false, false, false, false, _ => c5_tffff
  | true, false, false, false, true, _ => c5_tffft
  | true, false, false, true, false, _ => c5_tfftf
  | true, false, false, true, true, _ => c5_tfftt
  | true, false, true, false, false, _ => c5_tftff
  | true, false, true, false, true, _ => c5_tftft
  | true, false, true, true, false, _ => c5_tfttf
  | true, false, true, true, true, _ => c5_tfttt
  | true, true, false, false, false, _ => c5_ttfff
  | true, true, false, false, true, h => absurd (h rfl rfl) (by decide)
  | true, true, false, true, false, h => absurd (h rfl rfl) (by decide)
  | true, true, false, true, true, _ => c5_ttftt
  | true, true, true, false, false, _ => c5_tttff
  | true, true, true, false, true, h => absurd (h rfl rfl) (by decide)
  | true, true, true, true, false, h => absurd (h rfl rfl) (by decide)
  | true, true, true, true, true, _ => c5_ttttt
theorem all6 : ∀ za zb lab lvb lav : Bool, run6 za zb lab lvb lav = .yes
  | false, false, false, false, false => c6_fffff
  | false, false, false, false, true => c6_fffft
  | false, false, false, true, false => c6_ffftf
  | false, false, false, true, true => c6_ffftt
  | false, false, true, false, false => c6_fftff
  | false, false, true, false, true => c6_fftft
  | false, false, true, true, false => c6_ffttf
  | false, false, true, true, true => c6_ffttt
  | false, true, false, false, false => c6_ftfff
  | false, true, false, false, true => c6_ftfft
  | false, true, false, true, false => c6_ftftf
  | false, true, false, true, true => c6_ftftt
  | false, true, true, false, false => c6_fttff
  | false, true, true, false, true => c6_fttft
  | false, true, true, true, false => c6_ftttf
  | false, true, true, true, true => c6_ftttt
  | true, false, false, false, false => c6_tffff
  | true, false, false, false, true => c6_tffft
  | true, false, false, true, false => c6_tfftf
  | true, false, false, true, true => c6_tfftt
  | true, false, true, false, false => c6_tftff
  | true, false, true, false, true => c6_tftft
  | true, false, true, true, false => c6_tfttf
  | true, false, true, true, true => c6_tfttt
  | true, true, false, false, false => c6_ttfff
  | true, true, false, false, true => c6_ttfft
  | true, true, false, true, false => c6_ttftf
  | true, true, false, true, true => c6_ttftt
  | true, true, true, false, false => c6_tttff
  | true, true, true, false, true => c6_tttft
  | true, true, true, true, false => c6_ttttf
  | true, true, true, true, true => c6_ttttt
end Go.Proofs.YtphcmjojnfpkdaaDoor.termMakesq
