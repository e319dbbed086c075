/-
  The library functions that the walks meet, laid at this dump by the kit's program in its plain mode.
-/
import Derived.Shelf.Small.Bits
import Derived.Shelf.Small.Wraps
import Derived.Shelf.Strconv.Itoa0
import Derived.Ground.Names2Prog
import Derived.Shelf.Slices.Clone
import Derived.Shelf.Slices.SearchI
import Derived.Ground.SlgnProg
import Derived.Shelf.SlicesE.Clone
import Derived.Ground.SlsfProg
import Derived.Shelf.SlSortCmp.Insertion
import Derived.Shelf.SlSortCmp.SiftDown1
import Derived.Shelf.SlSortCmp.HeapSort1
import Derived.Shelf.SlSortCmp.Insertion1
import Derived.Shelf.SlSortCmp.Median1
import Derived.Shelf.SlSortCmp.Pivot1
import Derived.Shelf.SlSortCmp.ReverseRange1
import Derived.Shelf.SlSortCmp.PartialInsertion1
import Derived.Shelf.SlSortCmp.PartitionEqual1
import Derived.Shelf.SlSortCmp.Partition1
import Derived.Shelf.SlSortCmp.Pdq1
import Derived.Shelf.SlSortCmp.Whole1
import Derived.Test.YteghpophcnehgaaProg
import Derived.Test.YteghpophcnehgaaRows
namespace Go.Proofs
open Go.Shelf
def Try.lays125_ren:Go.Shelf.Ren:=⟨fun | 125=>43 | 128=>70 | 129=>71 | n=>n,fun | 46=>89 | 3=>3 | 51=>116 | 53=>118 | 4=>4 | 5=>5 | 9=>9 | n=>n,fun | n=>n⟩
theorem Try.lays125:Go.Proofs.Lays.n125 Try.prog Try.lays125_ren:={
 mixed:=by kernel_rfl
 f125:=Try.func43.trans (congrArg some (by kernel_rfl))
 f128:=Try.func70.trans (congrArg some (by kernel_rfl))
 f129:=Try.func71.trans (congrArg some (by kernel_rfl))
 t3:=Try.underlying3
 a3:=Try.isAgg3
 z3:=Try.sizeOf3
 v3:=Try.zeroValue3
 t4:=Try.underlying4
 a4:=Try.isAgg4
 z4:=Try.sizeOf4
 v4:=Try.zeroValue4
 t5:=Try.underlying5
 a5:=Try.isAgg5
 z5:=Try.sizeOf5
 v5:=Try.zeroValue5
 t9:=Try.underlying9
 a9:=Try.isAgg9
 z9:=Try.sizeOf9
 v9:=Try.zeroValue9
 t46:=Try.underlying89
 a46:=Try.isAgg89
 z46:=Try.sizeOf89
 v46:=Try.zeroValue89
 t51:=Try.underlying116
 a51:=Try.isAgg116
 z51:=Try.sizeOf116
 v51:=Try.zeroValue116
 t53:=Try.underlying118
 a53:=Try.isAgg118
 z53:=Try.sizeOf118
 v53:=Try.zeroValue118 }
theorem Try.bits_Len (x:Int) (w:World) (h0:0≤x) (h1:x≤18446744073709551615) :
  Calls Try.prog 43 #[.int .u64 x] w fun e w'=>e=.returned (.int .i64 (Lib.bitLen x.toNat))∧w'=w:=Any.bits_Len Try.lays125 x w h0 h1
def Try.laysSlF6_f19_ren:Go.Shelf.Ren:=⟨fun | 6=>25 | 15=>43 | 14=>42 | 28=>70 | 29=>71 | 20=>62 | 21=>63 | 22=>64 | 23=>65 | 24=>66 | 25=>67 | 26=>68 | 27=>69 | 46=>80 | 47=>81 | 48=>82 | 49=>83 | 50=>84 | 57=>86 | n=>n,fun | 22=>35 | 24=>22 | 25=>65 | 3=>3 | 39=>89 | 0=>0 | 53=>116 | 55=>118 | 4=>4 | 46=>110 | 45=>109 | 50=>69 | 5=>5 | 9=>9 | 66=>128 | 70=>132 | 76=>135 | 77=>136 | n=>n,fun | n=>n⟩
theorem Try.laysSlF6_f19:Go.Proofs.SlLaysF.n6 Try.prog Try.laysSlF6_f19_ren:={
 mixed:=by kernel_rfl
 f6:=⟨Try.f25.name,by decide,Try.func25.trans (congrArg some (by kernel_rfl))⟩
 f14:=⟨Try.f42.name,by decide,Try.func42.trans (congrArg some (by kernel_rfl))⟩
 f15:=Try.func43.trans (congrArg some (by kernel_rfl))
 f20:=⟨Try.f62.name,by decide,Try.func62.trans (congrArg some (by kernel_rfl))⟩
 f21:=⟨Try.f63.name,by decide,Try.func63.trans (congrArg some (by kernel_rfl))⟩
 f22:=⟨Try.f64.name,by decide,Try.func64.trans (congrArg some (by kernel_rfl))⟩
 f23:=⟨Try.f65.name,by decide,Try.func65.trans (congrArg some (by kernel_rfl))⟩
 f24:=⟨Try.f66.name,by decide,Try.func66.trans (congrArg some (by kernel_rfl))⟩
 f25:=⟨Try.f67.name,by decide,Try.func67.trans (congrArg some (by kernel_rfl))⟩
 f26:=⟨Try.f68.name,by decide,Try.func68.trans (congrArg some (by kernel_rfl))⟩
 f27:=⟨Try.f69.name,by decide,Try.func69.trans (congrArg some (by kernel_rfl))⟩
 f28:=Try.func70.trans (congrArg some (by kernel_rfl))
 f29:=Try.func71.trans (congrArg some (by kernel_rfl))
 f46:=⟨Try.f80.name,by decide,Try.func80.trans (congrArg some (by kernel_rfl))⟩
 f47:=Try.func81.trans (congrArg some (by kernel_rfl))
 f48:=Try.func82.trans (congrArg some (by kernel_rfl))
 f49:=⟨Try.f83.name,by decide,Try.func83.trans (congrArg some (by kernel_rfl))⟩
 f50:=⟨Try.f84.name,by decide,Try.func84.trans (congrArg some (by kernel_rfl))⟩
 f57:=⟨Try.f86.name,by decide,Try.func86.trans (congrArg some (by kernel_rfl))⟩
 t0:=Try.underlying0
 a0:=Try.isAgg0
 z0:=Try.sizeOf0
 v0:=Try.zeroValue0
 t3:=Try.underlying3
 a3:=Try.isAgg3
 z3:=Try.sizeOf3
 v3:=Try.zeroValue3
 t4:=Try.underlying4
 a4:=Try.isAgg4
 z4:=Try.sizeOf4
 v4:=Try.zeroValue4
 t5:=Try.underlying5
 a5:=Try.isAgg5
 z5:=Try.sizeOf5
 v5:=Try.zeroValue5
 t9:=Try.underlying9
 a9:=Try.isAgg9
 z9:=Try.sizeOf9
 v9:=Try.zeroValue9
 t22:=Try.underlying35
 a22:=Try.isAgg35
 z22:=Try.sizeOf35
 v22:=Try.zeroValue35
 a24:=Try.isAgg22
 z24:=Try.sizeOf22
 t25:=Try.underlying65
 a25:=Try.isAgg65
 z25:=Try.sizeOf65
 v25:=Try.zeroValue65
 t39:=Try.underlying89
 a39:=Try.isAgg89
 z39:=Try.sizeOf89
 v39:=Try.zeroValue89
 t45:=Try.underlying109
 a45:=Try.isAgg109
 z45:=Try.sizeOf109
 v45:=Try.zeroValue109
 t46:=Try.underlying110
 a46:=Try.isAgg110
 z46:=Try.sizeOf110
 v46:=Try.zeroValue110
 t50:=Try.underlying69
 a50:=Try.isAgg69
 z50:=Try.sizeOf69
 v50:=Try.zeroValue69
 t53:=Try.underlying116
 a53:=Try.isAgg116
 z53:=Try.sizeOf116
 v53:=Try.zeroValue116
 t55:=Try.underlying118
 a55:=Try.isAgg118
 z55:=Try.sizeOf118
 v55:=Try.zeroValue118
 t66:=Try.underlying128
 a66:=Try.isAgg128
 z66:=Try.sizeOf128
 v66:=Try.zeroValue128
 t70:=Try.underlying132
 a70:=Try.isAgg132
 z70:=Try.sizeOf132
 v70:=Try.zeroValue132
 t76:=Try.underlying135
 a76:=Try.isAgg135
 z76:=Try.sizeOf135
 v76:=Try.zeroValue135
 t77:=Try.underlying136
 a77:=Try.isAgg136
 z77:=Try.sizeOf136
 v77:=Try.zeroValue136 }
open Go.RowKit Go.Lib Go.Sort in
theorem Try.slices_SortFunc {α:Type} [Inhabited α] (enc:α→Value) (h1:OneCell enc) (cf:α→α→Int) (hO:SWO (ltOf cf)) (g:Nat) (cb:Array Value) (blk off cap:Nat) (d:Array α) (w:World) (eg:∀ args w,(callFunc g args).run Try.prog w=.ok (.enter g args) w) (hcmp:CmpLays1 Try.prog g cb enc cf blk off d.size w) (hH:Holds enc w blk off d) (hblk:blk < w.heap.size) (hsz:d.size < 4611686018427387904) :
  Calls Try.prog 25 #[.slice (some ⟨blk,off,none⟩) d.size cap,.func (.func g) #[] cb] w fun e w'=>
   e=.returned (.tuple #[])∧∃ d' n os,PermIn 0 d.size d d'∧SortedIn (ltOf cf) 0 d.size d'∧w'=sortWorld enc w blk off n d' os:=Any.slices_SortFunc Try.laysSlF6_f19 enc h1 cf hO g cb blk off cap d w eg hcmp hH hblk hsz
end Go.Proofs
