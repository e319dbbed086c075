/-
  What the functions that the law reaches do, one by one: contracts. Conditions: those that each of them prints.
-/
import Derived.Test.YteghpophcnehgaaMzb
import Derived.WalkKit
import Derived.Deep.RegionLaw
import Derived.Deep.Quiet
import Derived.Maps.AppendAt
namespace Go.Proofs.Yteghpophcnehgaa
open Go.RowKit ExprA SndA
def ogH0:Oper:={ dst:=some 32,op:=Op.load 34 (Operand.tmp 31),type:=34,pos := "ref.go:17", after:=#[{ on:=3,ground:=Ground.data }],guard:=none }
def ogH1:Oper:={ dst:=some 33,op:=Op.load 49 (Operand.tmp 8),type:=49,pos := "ref.go:17", after:=#[],guard:=none }
def ogH2:Oper:={ dst:=some 34,op:=Op.buildSlice 34 1 #[(0,Operand.tmp 33)],type:=34,pos := "ref.go:17", after:=#[{ on:=5,ground:=Ground.data }],guard:=none }
def ogH3:Oper:={ dst:=some 35,op:=Op.call { callee:=Callee.builtin Builtin.append,args:=#[Operand.tmp 32,Operand.tmp 34],argTypes:=#[34,34] },type:=34,pos := "ref.go:17", after:=#[{ on:=4,ground:=Ground.data },{ on:=6,ground:=Ground.data }],guard:=none }
def ogH4:Oper:={ dst:=some 36,op:=Op.nilCheck (Operand.tmp 28),type:=0,pos := "ref.go:17", after:=#[{ on:=0,ground:=Ground.data },{ on:=0,ground:=Ground.phase },{ on:=1,ground:=Ground.phase },{ on:=2,ground:=Ground.phase },{ on:=3,ground:=Ground.phase },{ on:=4,ground:=Ground.phase },{ on:=5,ground:=Ground.phase },{ on:=6,ground:=Ground.phase },{ on:=7,ground:=Ground.phase }],guard:=none }
def ogH5:Oper:={ dst:=some 37,op:=Op.fieldAddr 38 (Operand.tmp 36) 1,type:=0,pos := "ref.go:17", after:=#[{ on:=8,ground:=Ground.data },{ on:=0,ground:=Ground.phase },{ on:=1,ground:=Ground.phase },{ on:=2,ground:=Ground.phase },{ on:=3,ground:=Ground.phase },{ on:=4,ground:=Ground.phase },{ on:=5,ground:=Ground.phase },{ on:=6,ground:=Ground.phase },{ on:=7,ground:=Ground.phase }],guard:=none }
def ogH6:Oper:={ dst:=none,op:=Op.store 34 (Operand.tmp 37) (Operand.tmp 35),type:=0,pos := "ref.go:17", after:=#[{ on:=9,ground:=Ground.data },{ on:=7,ground:=Ground.data },{ on:=7,ground:=Ground.chain },{ on:=0,ground:=Ground.phase },{ on:=1,ground:=Ground.phase },{ on:=2,ground:=Ground.phase },{ on:=3,ground:=Ground.phase },{ on:=4,ground:=Ground.phase },{ on:=5,ground:=Ground.phase },{ on:=6,ground:=Ground.phase },{ on:=7,ground:=Ground.phase }],guard:=none }
def ogH7:Oper:={ dst:=some 42,op:=Op.load 36 (Operand.tmp 41),type:=36,pos := "ref.go:19", after:=#[{ on:=3,ground:=Ground.data }],guard:=none }
def ogH8:Oper:={ dst:=some 44,op:=Op.load 36 (Operand.tmp 43),type:=36,pos := "ref.go:19", after:=#[{ on:=5,ground:=Ground.data }],guard:=none }
def ogH9:Oper:={ dst:=some 46,op:=Op.call { callee:=Callee.value (Operand.func 58),args:=#[Operand.tmp 44,Operand.tmp 45],argTypes:=#[36,3] },type:=36,pos := "ref.go:19", after:=#[{ on:=6,ground:=Ground.data },{ on:=7,ground:=Ground.data }],guard:=none }
def ogH10:Oper:={ dst:=some 47,op:=Op.call { callee:=Callee.builtin Builtin.append,args:=#[Operand.tmp 42,Operand.tmp 46],argTypes:=#[36,36] },type:=36,pos := "ref.go:19", after:=#[{ on:=4,ground:=Ground.data },{ on:=8,ground:=Ground.data },{ on:=8,ground:=Ground.chain }],guard:=none }
def ogH11:Oper:={ dst:=some 48,op:=Op.nilCheck (Operand.tmp 38),type:=0,pos := "ref.go:19", after:=#[{ on:=0,ground:=Ground.data },{ on:=0,ground:=Ground.phase },{ on:=1,ground:=Ground.phase },{ on:=2,ground:=Ground.phase },{ on:=3,ground:=Ground.phase },{ on:=4,ground:=Ground.phase },{ on:=5,ground:=Ground.phase },{ on:=6,ground:=Ground.phase },{ on:=7,ground:=Ground.phase },{ on:=8,ground:=Ground.phase },{ on:=9,ground:=Ground.phase }],guard:=none }
def ogH12:Oper:={ dst:=some 49,op:=Op.fieldAddr 38 (Operand.tmp 48) 4,type:=0,pos := "ref.go:19", after:=#[{ on:=10,ground:=Ground.data },{ on:=0,ground:=Ground.phase },{ on:=1,ground:=Ground.phase },{ on:=2,ground:=Ground.phase },{ on:=3,ground:=Ground.phase },{ on:=4,ground:=Ground.phase },{ on:=5,ground:=Ground.phase },{ on:=6,ground:=Ground.phase },{ on:=7,ground:=Ground.phase },{ on:=8,ground:=Ground.phase },{ on:=9,ground:=Ground.phase }],guard:=none }
def ogH13:Oper:={ dst:=none,op:=Op.store 36 (Operand.tmp 49) (Operand.tmp 47),type:=0,pos := "ref.go:19", after:=#[{ on:=11,ground:=Ground.data },{ on:=9,ground:=Ground.data },{ on:=9,ground:=Ground.chain },{ on:=0,ground:=Ground.phase },{ on:=1,ground:=Ground.phase },{ on:=2,ground:=Ground.phase },{ on:=3,ground:=Ground.phase },{ on:=4,ground:=Ground.phase },{ on:=5,ground:=Ground.phase },{ on:=6,ground:=Ground.phase },{ on:=7,ground:=Ground.phase },{ on:=8,ground:=Ground.phase },{ on:=9,ground:=Ground.phase }],guard:=none }
def ogH14:Oper:={ dst:=some 54,op:=Op.load 36 (Operand.tmp 53),type:=36,pos := "ref.go:20", after:=#[{ on:=3,ground:=Ground.data }],guard:=none }
def ogH15:Oper:={ dst:=some 56,op:=Op.load 36 (Operand.tmp 55),type:=36,pos := "ref.go:20", after:=#[{ on:=5,ground:=Ground.data }],guard:=none }
def ogH16:Oper:={ dst:=some 58,op:=Op.call { callee:=Callee.value (Operand.func 58),args:=#[Operand.tmp 56,Operand.tmp 57],argTypes:=#[36,3] },type:=36,pos := "ref.go:20", after:=#[{ on:=6,ground:=Ground.data },{ on:=7,ground:=Ground.data }],guard:=none }
def ogH17:Oper:={ dst:=some 59,op:=Op.call { callee:=Callee.builtin Builtin.append,args:=#[Operand.tmp 54,Operand.tmp 58],argTypes:=#[36,36] },type:=36,pos := "ref.go:20", after:=#[{ on:=4,ground:=Ground.data },{ on:=8,ground:=Ground.data },{ on:=8,ground:=Ground.chain }],guard:=none }
def ogH18:Oper:={ dst:=some 60,op:=Op.nilCheck (Operand.tmp 50),type:=0,pos := "ref.go:20", after:=#[{ on:=0,ground:=Ground.data },{ on:=0,ground:=Ground.phase },{ on:=1,ground:=Ground.phase },{ on:=2,ground:=Ground.phase },{ on:=3,ground:=Ground.phase },{ on:=4,ground:=Ground.phase },{ on:=5,ground:=Ground.phase },{ on:=6,ground:=Ground.phase },{ on:=7,ground:=Ground.phase },{ on:=8,ground:=Ground.phase },{ on:=9,ground:=Ground.phase }],guard:=none }
def ogH19:Oper:={ dst:=some 61,op:=Op.fieldAddr 38 (Operand.tmp 60) 5,type:=0,pos := "ref.go:20", after:=#[{ on:=10,ground:=Ground.data },{ on:=0,ground:=Ground.phase },{ on:=1,ground:=Ground.phase },{ on:=2,ground:=Ground.phase },{ on:=3,ground:=Ground.phase },{ on:=4,ground:=Ground.phase },{ on:=5,ground:=Ground.phase },{ on:=6,ground:=Ground.phase },{ on:=7,ground:=Ground.phase },{ on:=8,ground:=Ground.phase },{ on:=9,ground:=Ground.phase }],guard:=none }
def ogH20:Oper:={ dst:=none,op:=Op.store 36 (Operand.tmp 61) (Operand.tmp 59),type:=0,pos := "ref.go:20", after:=#[{ on:=11,ground:=Ground.data },{ on:=9,ground:=Ground.data },{ on:=9,ground:=Ground.chain },{ on:=0,ground:=Ground.phase },{ on:=1,ground:=Ground.phase },{ on:=2,ground:=Ground.phase },{ on:=3,ground:=Ground.phase },{ on:=4,ground:=Ground.phase },{ on:=5,ground:=Ground.phase },{ on:=6,ground:=Ground.phase },{ on:=7,ground:=Ground.phase },{ on:=8,ground:=Ground.phase },{ on:=9,ground:=Ground.phase }],guard:=none }
def ogH21:Oper:={ dst:=some 66,op:=Op.load 36 (Operand.tmp 65),type:=36,pos := "ref.go:21", after:=#[{ on:=3,ground:=Ground.data }],guard:=none }
def ogH22:Oper:={ dst:=some 68,op:=Op.load 36 (Operand.tmp 67),type:=36,pos := "ref.go:21", after:=#[{ on:=5,ground:=Ground.data }],guard:=none }
def ogH23:Oper:={ dst:=some 70,op:=Op.call { callee:=Callee.value (Operand.func 58),args:=#[Operand.tmp 68,Operand.tmp 69],argTypes:=#[36,3] },type:=36,pos := "ref.go:21", after:=#[{ on:=6,ground:=Ground.data },{ on:=7,ground:=Ground.data }],guard:=none }
def ogH24:Oper:={ dst:=some 71,op:=Op.call { callee:=Callee.builtin Builtin.append,args:=#[Operand.tmp 66,Operand.tmp 70],argTypes:=#[36,36] },type:=36,pos := "ref.go:21", after:=#[{ on:=4,ground:=Ground.data },{ on:=8,ground:=Ground.data },{ on:=8,ground:=Ground.chain }],guard:=none }
def ogH25:Oper:={ dst:=some 72,op:=Op.nilCheck (Operand.tmp 62),type:=0,pos := "ref.go:21", after:=#[{ on:=0,ground:=Ground.data },{ on:=0,ground:=Ground.phase },{ on:=1,ground:=Ground.phase },{ on:=2,ground:=Ground.phase },{ on:=3,ground:=Ground.phase },{ on:=4,ground:=Ground.phase },{ on:=5,ground:=Ground.phase },{ on:=6,ground:=Ground.phase },{ on:=7,ground:=Ground.phase },{ on:=8,ground:=Ground.phase },{ on:=9,ground:=Ground.phase }],guard:=none }
def ogH26:Oper:={ dst:=some 73,op:=Op.fieldAddr 38 (Operand.tmp 72) 6,type:=0,pos := "ref.go:21", after:=#[{ on:=10,ground:=Ground.data },{ on:=0,ground:=Ground.phase },{ on:=1,ground:=Ground.phase },{ on:=2,ground:=Ground.phase },{ on:=3,ground:=Ground.phase },{ on:=4,ground:=Ground.phase },{ on:=5,ground:=Ground.phase },{ on:=6,ground:=Ground.phase },{ on:=7,ground:=Ground.phase },{ on:=8,ground:=Ground.phase },{ on:=9,ground:=Ground.phase }],guard:=none }
def ogH27:Oper:={ dst:=none,op:=Op.store 36 (Operand.tmp 73) (Operand.tmp 71),type:=0,pos := "ref.go:21", after:=#[{ on:=11,ground:=Ground.data },{ on:=9,ground:=Ground.data },{ on:=9,ground:=Ground.chain },{ on:=0,ground:=Ground.phase },{ on:=1,ground:=Ground.phase },{ on:=2,ground:=Ground.phase },{ on:=3,ground:=Ground.phase },{ on:=4,ground:=Ground.phase },{ on:=5,ground:=Ground.phase },{ on:=6,ground:=Ground.phase },{ on:=7,ground:=Ground.phase },{ on:=8,ground:=Ground.phase },{ on:=9,ground:=Ground.phase }],guard:=none }
def ogH28:Oper:={ dst:=some 78,op:=Op.load 36 (Operand.tmp 77),type:=36,pos := "ref.go:22", after:=#[{ on:=3,ground:=Ground.data }],guard:=none }
def ogH29:Oper:={ dst:=some 80,op:=Op.load 36 (Operand.tmp 79),type:=36,pos := "ref.go:22", after:=#[{ on:=5,ground:=Ground.data }],guard:=none }
def ogH30:Oper:={ dst:=some 82,op:=Op.call { callee:=Callee.value (Operand.func 58),args:=#[Operand.tmp 80,Operand.tmp 81],argTypes:=#[36,3] },type:=36,pos := "ref.go:22", after:=#[{ on:=6,ground:=Ground.data },{ on:=7,ground:=Ground.data }],guard:=none }
def ogH31:Oper:={ dst:=some 83,op:=Op.call { callee:=Callee.builtin Builtin.append,args:=#[Operand.tmp 78,Operand.tmp 82],argTypes:=#[36,36] },type:=36,pos := "ref.go:22", after:=#[{ on:=4,ground:=Ground.data },{ on:=8,ground:=Ground.data },{ on:=8,ground:=Ground.chain }],guard:=none }
def ogH32:Oper:={ dst:=some 84,op:=Op.nilCheck (Operand.tmp 74),type:=0,pos := "ref.go:22", after:=#[{ on:=0,ground:=Ground.data },{ on:=0,ground:=Ground.phase },{ on:=1,ground:=Ground.phase },{ on:=2,ground:=Ground.phase },{ on:=3,ground:=Ground.phase },{ on:=4,ground:=Ground.phase },{ on:=5,ground:=Ground.phase },{ on:=6,ground:=Ground.phase },{ on:=7,ground:=Ground.phase },{ on:=8,ground:=Ground.phase },{ on:=9,ground:=Ground.phase }],guard:=none }
def ogH33:Oper:={ dst:=some 85,op:=Op.fieldAddr 38 (Operand.tmp 84) 7,type:=0,pos := "ref.go:22", after:=#[{ on:=10,ground:=Ground.data },{ on:=0,ground:=Ground.phase },{ on:=1,ground:=Ground.phase },{ on:=2,ground:=Ground.phase },{ on:=3,ground:=Ground.phase },{ on:=4,ground:=Ground.phase },{ on:=5,ground:=Ground.phase },{ on:=6,ground:=Ground.phase },{ on:=7,ground:=Ground.phase },{ on:=8,ground:=Ground.phase },{ on:=9,ground:=Ground.phase }],guard:=none }
def ogH34:Oper:={ dst:=none,op:=Op.store 36 (Operand.tmp 85) (Operand.tmp 83),type:=0,pos := "ref.go:22", after:=#[{ on:=11,ground:=Ground.data },{ on:=9,ground:=Ground.data },{ on:=9,ground:=Ground.chain },{ on:=0,ground:=Ground.phase },{ on:=1,ground:=Ground.phase },{ on:=2,ground:=Ground.phase },{ on:=3,ground:=Ground.phase },{ on:=4,ground:=Ground.phase },{ on:=5,ground:=Ground.phase },{ on:=6,ground:=Ground.phase },{ on:=7,ground:=Ground.phase },{ on:=8,ground:=Ground.phase },{ on:=9,ground:=Ground.phase }],guard:=none }
def rgH0:Array Oper:=#[{ dst:=some 28,op:=Op.move (Operand.tmp 0),type:=80,pos := "ref.go:17", after:=#[],guard:=none },{ dst:=some 29,op:=Op.move (Operand.tmp 0),type:=80,pos := "ref.go:17", after:=#[],guard:=none },{ dst:=some 30,op:=Op.nilCheck (Operand.tmp 29),type:=0,pos := "ref.go:17", after:=#[{ on:=1,ground:=Ground.data }],guard:=none },{ dst:=some 31,op:=Op.fieldAddr 38 (Operand.tmp 30) 1,type:=0,pos := "ref.go:17", after:=#[{ on:=2,ground:=Ground.data }],guard:=none },{ dst:=some 32,op:=Op.load 34 (Operand.tmp 31),type:=34,pos := "ref.go:17", after:=#[{ on:=3,ground:=Ground.data }],guard:=none },{ dst:=some 33,op:=Op.load 49 (Operand.tmp 8),type:=49,pos := "ref.go:17", after:=#[],guard:=none },{ dst:=some 34,op:=Op.buildSlice 34 1 #[(0,Operand.tmp 33)],type:=34,pos := "ref.go:17", after:=#[{ on:=5,ground:=Ground.data }],guard:=none },{ dst:=some 35,op:=Op.call { callee:=Callee.builtin Builtin.append,args:=#[Operand.tmp 32,Operand.tmp 34],argTypes:=#[34,34] },type:=34,pos := "ref.go:17", after:=#[{ on:=4,ground:=Ground.data },{ on:=6,ground:=Ground.data }],guard:=none },{ dst:=some 36,op:=Op.nilCheck (Operand.tmp 28),type:=0,pos := "ref.go:17", after:=#[{ on:=0,ground:=Ground.data },{ on:=0,ground:=Ground.phase },{ on:=1,ground:=Ground.phase },{ on:=2,ground:=Ground.phase },{ on:=3,ground:=Ground.phase },{ on:=4,ground:=Ground.phase },{ on:=5,ground:=Ground.phase },{ on:=6,ground:=Ground.phase },{ on:=7,ground:=Ground.phase }],guard:=none },{ dst:=some 37,op:=Op.fieldAddr 38 (Operand.tmp 36) 1,type:=0,pos := "ref.go:17", after:=#[{ on:=8,ground:=Ground.data },{ on:=0,ground:=Ground.phase },{ on:=1,ground:=Ground.phase },{ on:=2,ground:=Ground.phase },{ on:=3,ground:=Ground.phase },{ on:=4,ground:=Ground.phase },{ on:=5,ground:=Ground.phase },{ on:=6,ground:=Ground.phase },{ on:=7,ground:=Ground.phase }],guard:=none },{ dst:=none,op:=Op.store 34 (Operand.tmp 37) (Operand.tmp 35),type:=0,pos := "ref.go:17", after:=#[{ on:=9,ground:=Ground.data },{ on:=7,ground:=Ground.data },{ on:=7,ground:=Ground.chain },{ on:=0,ground:=Ground.phase },{ on:=1,ground:=Ground.phase },{ on:=2,ground:=Ground.phase },{ on:=3,ground:=Ground.phase },{ on:=4,ground:=Ground.phase },{ on:=5,ground:=Ground.phase },{ on:=6,ground:=Ground.phase },{ on:=7,ground:=Ground.phase }],guard:=none }]
def rgH1:Array Oper:=#[{ dst:=some 38,op:=Op.move (Operand.tmp 0),type:=80,pos := "ref.go:19", after:=#[],guard:=none },{ dst:=some 39,op:=Op.move (Operand.tmp 0),type:=80,pos := "ref.go:19", after:=#[],guard:=none },{ dst:=some 40,op:=Op.nilCheck (Operand.tmp 39),type:=0,pos := "ref.go:19", after:=#[{ on:=1,ground:=Ground.data }],guard:=none },{ dst:=some 41,op:=Op.fieldAddr 38 (Operand.tmp 40) 4,type:=0,pos := "ref.go:19", after:=#[{ on:=2,ground:=Ground.data }],guard:=none },{ dst:=some 42,op:=Op.load 36 (Operand.tmp 41),type:=36,pos := "ref.go:19", after:=#[{ on:=3,ground:=Ground.data }],guard:=none },{ dst:=some 43,op:=Op.fieldAddr 76 (Operand.tmp 4) 1,type:=0,pos := "ref.go:19", after:=#[],guard:=none },{ dst:=some 44,op:=Op.load 36 (Operand.tmp 43),type:=36,pos := "ref.go:19", after:=#[{ on:=5,ground:=Ground.data }],guard:=none },{ dst:=some 45,op:=Op.move (Operand.tmp 6),type:=3,pos := "ref.go:19", after:=#[],guard:=none },{ dst:=some 46,op:=Op.call { callee:=Callee.value (Operand.func 58),args:=#[Operand.tmp 44,Operand.tmp 45],argTypes:=#[36,3] },type:=36,pos := "ref.go:19", after:=#[{ on:=6,ground:=Ground.data },{ on:=7,ground:=Ground.data }],guard:=none },{ dst:=some 47,op:=Op.call { callee:=Callee.builtin Builtin.append,args:=#[Operand.tmp 42,Operand.tmp 46],argTypes:=#[36,36] },type:=36,pos := "ref.go:19", after:=#[{ on:=4,ground:=Ground.data },{ on:=8,ground:=Ground.data },{ on:=8,ground:=Ground.chain }],guard:=none },{ dst:=some 48,op:=Op.nilCheck (Operand.tmp 38),type:=0,pos := "ref.go:19", after:=#[{ on:=0,ground:=Ground.data },{ on:=0,ground:=Ground.phase },{ on:=1,ground:=Ground.phase },{ on:=2,ground:=Ground.phase },{ on:=3,ground:=Ground.phase },{ on:=4,ground:=Ground.phase },{ on:=5,ground:=Ground.phase },{ on:=6,ground:=Ground.phase },{ on:=7,ground:=Ground.phase },{ on:=8,ground:=Ground.phase },{ on:=9,ground:=Ground.phase }],guard:=none },{ dst:=some 49,op:=Op.fieldAddr 38 (Operand.tmp 48) 4,type:=0,pos := "ref.go:19", after:=#[{ on:=10,ground:=Ground.data },{ on:=0,ground:=Ground.phase },{ on:=1,ground:=Ground.phase },{ on:=2,ground:=Ground.phase },{ on:=3,ground:=Ground.phase },{ on:=4,ground:=Ground.phase },{ on:=5,ground:=Ground.phase },{ on:=6,ground:=Ground.phase },{ on:=7,ground:=Ground.phase },{ on:=8,ground:=Ground.phase },{ on:=9,ground:=Ground.phase }],guard:=none },{ dst:=none,op:=Op.store 36 (Operand.tmp 49) (Operand.tmp 47),type:=0,pos := "ref.go:19", after:=#[{ on:=11,ground:=Ground.data },{ on:=9,ground:=Ground.data },{ on:=9,ground:=Ground.chain },{ on:=0,ground:=Ground.phase },{ on:=1,ground:=Ground.phase },{ on:=2,ground:=Ground.phase },{ on:=3,ground:=Ground.phase },{ on:=4,ground:=Ground.phase },{ on:=5,ground:=Ground.phase },{ on:=6,ground:=Ground.phase },{ on:=7,ground:=Ground.phase },{ on:=8,ground:=Ground.phase },{ on:=9,ground:=Ground.phase }],guard:=none }]
def rgH2:Array Oper:=#[{ dst:=some 50,op:=Op.move (Operand.tmp 0),type:=80,pos := "ref.go:20", after:=#[],guard:=none },{ dst:=some 51,op:=Op.move (Operand.tmp 0),type:=80,pos := "ref.go:20", after:=#[],guard:=none },{ dst:=some 52,op:=Op.nilCheck (Operand.tmp 51),type:=0,pos := "ref.go:20", after:=#[{ on:=1,ground:=Ground.data }],guard:=none },{ dst:=some 53,op:=Op.fieldAddr 38 (Operand.tmp 52) 5,type:=0,pos := "ref.go:20", after:=#[{ on:=2,ground:=Ground.data }],guard:=none },{ dst:=some 54,op:=Op.load 36 (Operand.tmp 53),type:=36,pos := "ref.go:20", after:=#[{ on:=3,ground:=Ground.data }],guard:=none },{ dst:=some 55,op:=Op.fieldAddr 76 (Operand.tmp 4) 2,type:=0,pos := "ref.go:20", after:=#[],guard:=none },{ dst:=some 56,op:=Op.load 36 (Operand.tmp 55),type:=36,pos := "ref.go:20", after:=#[{ on:=5,ground:=Ground.data }],guard:=none },{ dst:=some 57,op:=Op.move (Operand.tmp 6),type:=3,pos := "ref.go:20", after:=#[],guard:=none },{ dst:=some 58,op:=Op.call { callee:=Callee.value (Operand.func 58),args:=#[Operand.tmp 56,Operand.tmp 57],argTypes:=#[36,3] },type:=36,pos := "ref.go:20", after:=#[{ on:=6,ground:=Ground.data },{ on:=7,ground:=Ground.data }],guard:=none },{ dst:=some 59,op:=Op.call { callee:=Callee.builtin Builtin.append,args:=#[Operand.tmp 54,Operand.tmp 58],argTypes:=#[36,36] },type:=36,pos := "ref.go:20", after:=#[{ on:=4,ground:=Ground.data },{ on:=8,ground:=Ground.data },{ on:=8,ground:=Ground.chain }],guard:=none },{ dst:=some 60,op:=Op.nilCheck (Operand.tmp 50),type:=0,pos := "ref.go:20", after:=#[{ on:=0,ground:=Ground.data },{ on:=0,ground:=Ground.phase },{ on:=1,ground:=Ground.phase },{ on:=2,ground:=Ground.phase },{ on:=3,ground:=Ground.phase },{ on:=4,ground:=Ground.phase },{ on:=5,ground:=Ground.phase },{ on:=6,ground:=Ground.phase },{ on:=7,ground:=Ground.phase },{ on:=8,ground:=Ground.phase },{ on:=9,ground:=Ground.phase }],guard:=none },{ dst:=some 61,op:=Op.fieldAddr 38 (Operand.tmp 60) 5,type:=0,pos := "ref.go:20", after:=#[{ on:=10,ground:=Ground.data },{ on:=0,ground:=Ground.phase },{ on:=1,ground:=Ground.phase },{ on:=2,ground:=Ground.phase },{ on:=3,ground:=Ground.phase },{ on:=4,ground:=Ground.phase },{ on:=5,ground:=Ground.phase },{ on:=6,ground:=Ground.phase },{ on:=7,ground:=Ground.phase },{ on:=8,ground:=Ground.phase },{ on:=9,ground:=Ground.phase }],guard:=none },{ dst:=none,op:=Op.store 36 (Operand.tmp 61) (Operand.tmp 59),type:=0,pos := "ref.go:20", after:=#[{ on:=11,ground:=Ground.data },{ on:=9,ground:=Ground.data },{ on:=9,ground:=Ground.chain },{ on:=0,ground:=Ground.phase },{ on:=1,ground:=Ground.phase },{ on:=2,ground:=Ground.phase },{ on:=3,ground:=Ground.phase },{ on:=4,ground:=Ground.phase },{ on:=5,ground:=Ground.phase },{ on:=6,ground:=Ground.phase },{ on:=7,ground:=Ground.phase },{ on:=8,ground:=Ground.phase },{ on:=9,ground:=Ground.phase }],guard:=none }]
def rgH3:Array Oper:=#[{ dst:=some 62,op:=Op.move (Operand.tmp 0),type:=80,pos := "ref.go:21", after:=#[],guard:=none },{ dst:=some 63,op:=Op.move (Operand.tmp 0),type:=80,pos := "ref.go:21", after:=#[],guard:=none },{ dst:=some 64,op:=Op.nilCheck (Operand.tmp 63),type:=0,pos := "ref.go:21", after:=#[{ on:=1,ground:=Ground.data }],guard:=none },{ dst:=some 65,op:=Op.fieldAddr 38 (Operand.tmp 64) 6,type:=0,pos := "ref.go:21", after:=#[{ on:=2,ground:=Ground.data }],guard:=none },{ dst:=some 66,op:=Op.load 36 (Operand.tmp 65),type:=36,pos := "ref.go:21", after:=#[{ on:=3,ground:=Ground.data }],guard:=none },{ dst:=some 67,op:=Op.fieldAddr 76 (Operand.tmp 4) 3,type:=0,pos := "ref.go:21", after:=#[],guard:=none },{ dst:=some 68,op:=Op.load 36 (Operand.tmp 67),type:=36,pos := "ref.go:21", after:=#[{ on:=5,ground:=Ground.data }],guard:=none },{ dst:=some 69,op:=Op.move (Operand.tmp 6),type:=3,pos := "ref.go:21", after:=#[],guard:=none },{ dst:=some 70,op:=Op.call { callee:=Callee.value (Operand.func 58),args:=#[Operand.tmp 68,Operand.tmp 69],argTypes:=#[36,3] },type:=36,pos := "ref.go:21", after:=#[{ on:=6,ground:=Ground.data },{ on:=7,ground:=Ground.data }],guard:=none },{ dst:=some 71,op:=Op.call { callee:=Callee.builtin Builtin.append,args:=#[Operand.tmp 66,Operand.tmp 70],argTypes:=#[36,36] },type:=36,pos := "ref.go:21", after:=#[{ on:=4,ground:=Ground.data },{ on:=8,ground:=Ground.data },{ on:=8,ground:=Ground.chain }],guard:=none },{ dst:=some 72,op:=Op.nilCheck (Operand.tmp 62),type:=0,pos := "ref.go:21", after:=#[{ on:=0,ground:=Ground.data },{ on:=0,ground:=Ground.phase },{ on:=1,ground:=Ground.phase },{ on:=2,ground:=Ground.phase },{ on:=3,ground:=Ground.phase },{ on:=4,ground:=Ground.phase },{ on:=5,ground:=Ground.phase },{ on:=6,ground:=Ground.phase },{ on:=7,ground:=Ground.phase },{ on:=8,ground:=Ground.phase },{ on:=9,ground:=Ground.phase }],guard:=none },{ dst:=some 73,op:=Op.fieldAddr 38 (Operand.tmp 72) 6,type:=0,pos := "ref.go:21", after:=#[{ on:=10,ground:=Ground.data },{ on:=0,ground:=Ground.phase },{ on:=1,ground:=Ground.phase },{ on:=2,ground:=Ground.phase },{ on:=3,ground:=Ground.phase },{ on:=4,ground:=Ground.phase },{ on:=5,ground:=Ground.phase },{ on:=6,ground:=Ground.phase },{ on:=7,ground:=Ground.phase },{ on:=8,ground:=Ground.phase },{ on:=9,ground:=Ground.phase }],guard:=none },{ dst:=none,op:=Op.store 36 (Operand.tmp 73) (Operand.tmp 71),type:=0,pos := "ref.go:21", after:=#[{ on:=11,ground:=Ground.data },{ on:=9,ground:=Ground.data },{ on:=9,ground:=Ground.chain },{ on:=0,ground:=Ground.phase },{ on:=1,ground:=Ground.phase },{ on:=2,ground:=Ground.phase },{ on:=3,ground:=Ground.phase },{ on:=4,ground:=Ground.phase },{ on:=5,ground:=Ground.phase },{ on:=6,ground:=Ground.phase },{ on:=7,ground:=Ground.phase },{ on:=8,ground:=Ground.phase },{ on:=9,ground:=Ground.phase }],guard:=none }]
def rgH4:Array Oper:=#[{ dst:=some 74,op:=Op.move (Operand.tmp 0),type:=80,pos := "ref.go:22", after:=#[],guard:=none },{ dst:=some 75,op:=Op.move (Operand.tmp 0),type:=80,pos := "ref.go:22", after:=#[],guard:=none },{ dst:=some 76,op:=Op.nilCheck (Operand.tmp 75),type:=0,pos := "ref.go:22", after:=#[{ on:=1,ground:=Ground.data }],guard:=none },{ dst:=some 77,op:=Op.fieldAddr 38 (Operand.tmp 76) 7,type:=0,pos := "ref.go:22", after:=#[{ on:=2,ground:=Ground.data }],guard:=none },{ dst:=some 78,op:=Op.load 36 (Operand.tmp 77),type:=36,pos := "ref.go:22", after:=#[{ on:=3,ground:=Ground.data }],guard:=none },{ dst:=some 79,op:=Op.fieldAddr 76 (Operand.tmp 4) 4,type:=0,pos := "ref.go:22", after:=#[],guard:=none },{ dst:=some 80,op:=Op.load 36 (Operand.tmp 79),type:=36,pos := "ref.go:22", after:=#[{ on:=5,ground:=Ground.data }],guard:=none },{ dst:=some 81,op:=Op.move (Operand.tmp 6),type:=3,pos := "ref.go:22", after:=#[],guard:=none },{ dst:=some 82,op:=Op.call { callee:=Callee.value (Operand.func 58),args:=#[Operand.tmp 80,Operand.tmp 81],argTypes:=#[36,3] },type:=36,pos := "ref.go:22", after:=#[{ on:=6,ground:=Ground.data },{ on:=7,ground:=Ground.data }],guard:=none },{ dst:=some 83,op:=Op.call { callee:=Callee.builtin Builtin.append,args:=#[Operand.tmp 78,Operand.tmp 82],argTypes:=#[36,36] },type:=36,pos := "ref.go:22", after:=#[{ on:=4,ground:=Ground.data },{ on:=8,ground:=Ground.data },{ on:=8,ground:=Ground.chain }],guard:=none },{ dst:=some 84,op:=Op.nilCheck (Operand.tmp 74),type:=0,pos := "ref.go:22", after:=#[{ on:=0,ground:=Ground.data },{ on:=0,ground:=Ground.phase },{ on:=1,ground:=Ground.phase },{ on:=2,ground:=Ground.phase },{ on:=3,ground:=Ground.phase },{ on:=4,ground:=Ground.phase },{ on:=5,ground:=Ground.phase },{ on:=6,ground:=Ground.phase },{ on:=7,ground:=Ground.phase },{ on:=8,ground:=Ground.phase },{ on:=9,ground:=Ground.phase }],guard:=none },{ dst:=some 85,op:=Op.fieldAddr 38 (Operand.tmp 84) 7,type:=0,pos := "ref.go:22", after:=#[{ on:=10,ground:=Ground.data },{ on:=0,ground:=Ground.phase },{ on:=1,ground:=Ground.phase },{ on:=2,ground:=Ground.phase },{ on:=3,ground:=Ground.phase },{ on:=4,ground:=Ground.phase },{ on:=5,ground:=Ground.phase },{ on:=6,ground:=Ground.phase },{ on:=7,ground:=Ground.phase },{ on:=8,ground:=Ground.phase },{ on:=9,ground:=Ground.phase }],guard:=none },{ dst:=none,op:=Op.store 36 (Operand.tmp 85) (Operand.tmp 83),type:=0,pos := "ref.go:22", after:=#[{ on:=11,ground:=Ground.data },{ on:=9,ground:=Ground.data },{ on:=9,ground:=Ground.chain },{ on:=0,ground:=Ground.phase },{ on:=1,ground:=Ground.phase },{ on:=2,ground:=Ground.phase },{ on:=3,ground:=Ground.phase },{ on:=4,ground:=Ground.phase },{ on:=5,ground:=Ground.phase },{ on:=6,ground:=Ground.phase },{ on:=7,ground:=Ground.phase },{ on:=8,ground:=Ground.phase },{ on:=9,ground:=Ground.phase }],guard:=none }]
namespace SndA
theorem GS.drew {w0 W:World} {b:Nat} {locs:Int} {ve:Value} {E:List Ev} {gv:Nat→Value} {pi:Nat→List (Int × Int)} (h:GS w0 W b locs ve E gv pi):GS w0 W.drew b locs ve E gv pi:=h.next (bel_drewN W 1)
theorem GS.c1 {w0 W:World} {b:Nat} {locs:Int} {ve:Value} {E:List Ev} {gv:Nat→Value} {pi:Nat→List (Int × Int)} (h:GS w0 W b locs ve E gv pi):W.cell? ⟨b,1,none⟩=some ve∧W.frozen? ⟨b,1,none⟩=false:=by
 constructor
 ·simp only [World.cell?,h.box]; rfl
 ·simp only [World.frozen?,h.box]; rfl
theorem GS.ck {w0 W:World} {b:Nat} {locs:Int} {ve:Value} {E:List Ev} {gv:Nat→Value} {pi:Nat→List (Int × Int)} (h:GS w0 W b locs ve E gv pi) (k:Nat) (h4:4≤k) (h7:k≤7):W.cell? ⟨b,k,none⟩=some (gv k)∧W.frozen? ⟨b,k,none⟩=false:=by
 have c:k=4 ∨ k=5 ∨ k=6 ∨ k=7:=by omega
 constructor
 ·simp only [World.cell?,h.box]; rcases c with c | c | c | c <;> subst c <;> rfl
 ·simp only [World.frozen?,h.box]; rfl
end SndA
set_option maxRecDepth 20000 in
set_option maxHeartbeats 4000000 in
theorem layreg7_l (w0 w:World) (gb rb xb:Nat) (n locs:Int) (ve:Value) (E:List Ev) (e:Ev) (gv:Nat→Value) (pi:Nat→List (Int × Int)) (hG:GS w0 w gb locs ve E gv pi) (hE:E.length≤1000) (hx:w.heap[xb]?=some (.cells e.cs.toArray 49 (0,0)))
  (z1 z2 z3 z5 z7 z9 z10 z11 z12 z13 z14 z15 z16 z17 z18 z19 z20 z21 z22 z23 z24 z25 z26 z27 z28 z29 z30 z31 z32 z33 z34 z35 z36 z37 z38 z39 z40 z41 z42 z43 z44 z45 z46 z47 z48 z49 z50 z51 z52 z53 z54 z55 z56 z57 z58 z59 z60 z61 z62 z63 z64 z65 z66 z67 z68 z69 z70 z71 z72 z73 z74 z75 z76 z77 z78 z79 z80 z81 z82 z83 z84 z85:Value) (Q:Exit→Act→World→Prop)
  (hQp:∀ c (a:Act) (d:Tmp) v w,Q (.panic c) (a.put (some d) v) w→Q (.panic c) a w)
  (hQ:∀ (y28 y29 y30 y31 y32 y33 y34 y35 y36 y37 v1:Value) (W:World),GS w0 W gb locs v1 (E ++ [e]) gv pi→Fr (fun b=>b=gb ∨ ve.ownBlock=some b) w W→NewB w ve v1→Q .normal { tmps:=(.pointer (some ⟨gb,0,none⟩)::z1::z2::z3::.pointer (some ⟨rb,0,none⟩)::z5::.int .i64 n::z7::.pointer (some ⟨xb,0,none⟩)::z9::z10::z11::z12::z13::z14::z15::z16::z17::z18::z19::z20::z21::z22::z23::z24::z25::z26::z27::y28::y29::y30::y31::y32::y33::y34::y35::y36::y37::z38::z39::z40::z41::z42::z43::z44::z45::z46::z47::z48::z49::z50::z51::z52::z53::z54::z55::z56::z57::z58::z59::z60::z61::z62::z63::z64::z65::z66::z67::z68::z69::z70::z71::z72::z73::z74::z75::z76::z77::z78::z79::z80::z81::z82::z83::z84::z85::[]).toArray,defers:=[] } W) :
  Code.wp Try.prog (Code.region 7 rgH0 true) Q { tmps:=(.pointer (some ⟨gb,0,none⟩)::z1::z2::z3::.pointer (some ⟨rb,0,none⟩)::z5::.int .i64 n::z7::.pointer (some ⟨xb,0,none⟩)::z9::z10::z11::z12::z13::z14::z15::z16::z17::z18::z19::z20::z21::z22::z23::z24::z25::z26::z27::z28::z29::z30::z31::z32::z33::z34::z35::z36::z37::z38::z39::z40::z41::z42::z43::z44::z45::z46::z47::z48::z49::z50::z51::z52::z53::z54::z55::z56::z57::z58::z59::z60::z61::z62::z63::z64::z65::z66::z67::z68::z69::z70::z71::z72::z73::z74::z75::z76::z77::z78::z79::z80::z81::z82::z83::z84::z85::[]).toArray,defers:=[] } w:=by
 unfold rgH0
 refine wp_region_any (by kernel_rfl) ?_
 have hGd:=hG.drew
 have hF:Fr (fun b=>b=gb ∨ ve.ownBlock=some b) w (World.drew w):=Fr.of_below (bel_drewN w 1)
 have hW:Below w.heap.size w (World.drew w):=bel_drewN w 1
 clear hG
 have x0:w.cell? ⟨xb,0,none⟩=some (.int .i64 e.th):=cell_of_row _ _ _ _ _ _ hx
 have x1:w.cell? ⟨xb,1,none⟩=some (.int .i64 e.kd):=cell_of_row _ _ _ _ _ _ hx
 have x2:w.cell? ⟨xb,2,none⟩=some (.int .i64 e.md):=cell_of_row _ _ _ _ _ _ hx
 have x3:w.cell? ⟨xb,3,none⟩=some (.int .i64 e.lc):=cell_of_row _ _ _ _ _ _ hx
 have x4:w.cell? ⟨xb,4,none⟩=some (.int .i64 e.vl):=cell_of_row _ _ _ _ _ _ hx
 have x5:w.cell? ⟨xb,5,none⟩=some (.bool e.ex):=cell_of_row _ _ _ _ _ _ hx
 clear hx
 change wpAny _ _ _ _ _ _ _ (World.drew _)
 generalize World.drew w=W at hGd hF hW ⊢
 refine wpAny_take (i:=0) (v:=.pointer (some ⟨gb,0,none⟩)) rfl (by kernel_rfl) (by kernel_rfl) (by kernel_rfl) (fun c a w=>hQp c a _ _ w) (Or.inl ⟨by rfl,?_⟩) ?_
 ·intro w
  go_simp
 refine wpAny_take (i:=1) (v:=.pointer (some ⟨gb,0,none⟩)) rfl (by kernel_rfl) (by kernel_rfl) (by kernel_rfl) (fun c a w=>hQp c a _ _ w) (Or.inl ⟨by rfl,?_⟩) ?_
 ·intro w
  go_simp
 refine wpAny_take (i:=2) (v:=.pointer (some ⟨gb,0,none⟩)) rfl (by kernel_rfl) (by kernel_rfl) (by kernel_rfl) (fun c a w=>hQp c a _ _ w) (Or.inl ⟨by rfl,?_⟩) ?_
 ·intro w
  go_simp
 refine wpAny_take (i:=3) (v:=.pointer (some ⟨gb,1,none⟩)) rfl (by kernel_rfl) (by kernel_rfl) (by kernel_rfl) (fun c a w=>hQp c a _ _ w) (Or.inl ⟨by rfl,?_⟩) ?_
 ·intro w
  go_simp
 show wpAny _ _ _ _ 7 _ _ _
 refine wpAny_all (rs:=[4,5]) (by kernel_rfl) (by simp) ?_
 intro i hi
 simp only [List.mem_cons,List.not_mem_nil,or_false] at hi
 rcases hi with rfl | rfl
 ·obtain ⟨d1,d2⟩:=GS.c1 hGd
  refine wpOp_one (o:=ogH0) (by rfl) rfl ?_
  unfold ogH0
  unfold Oper.wp
  go_simp
  clear d1 d2
  refine wpAny_all (rs:=[5]) (by kernel_rfl) (by simp) ?_
  intro i hi
  simp only [List.mem_singleton] at hi
  subst hi
  have y0:=cell_next x0 hW
  have y1:=cell_next x1 hW
  have y2:=cell_next x2 hW
  have y3:=cell_next x3 hW
  have y4:=cell_next x4 hW
  have y5:=cell_next x5 hW
  refine wpOp_one (o:=ogH1) (by rfl) rfl ?_
  unfold ogH1
  unfold Oper.wp
  go_simp
  clear y0 y1 y2 y3 y4 y5
  refine wpAny_all (rs:=[6]) (by kernel_rfl) (by simp) ?_
  intro i hi
  simp only [List.mem_singleton] at hi
  subst hi
  have hG6:=hGd.next ((Below.refl W.heap.size W).alloc (Nat.le_refl _) (Obj.cells #[.int .i64 e.th,.int .i64 e.kd,.int .i64 e.md,.int .i64 e.lc,.int .i64 e.vl,.bool e.ex] 49 (0,0)))
  refine wpOp_one (o:=ogH2) (by rfl) rfl ?_
  unfold ogH2
  unfold Oper.wp
  go_simp
  refine wpAny_all (rs:=[7]) (by kernel_rfl) (by simp) ?_
  intro i hi
  simp only [List.mem_singleton] at hi
  subst hi
  obtain ⟨v7,W7,hr7,hn7,hg7,hv7⟩:=app_any hG6.oe hG6.bel.size Try.underlying34 infoEv rfl (by omega) (by omega) 34 (some ⟨W.heap.size,0,none⟩) 1 1 e.cs rfl (.inr ⟨_,rfl,World.news_of_block (cs:=e.cs.toArray) (t:=49) (fr:=(0,0)) (heap_alloc_new W _)⟩) (by intro u hu; simp [Ev.cs] at hu; rcases hu with rfl | rfl | rfl | rfl | rfl | rfl <;> rfl) (by omega)
  obtain ⟨hGe,k1,k2⟩:=GS.grown (e:=e) hGd hn7 hg7 hv7
  obtain ⟨a7,c7,rfl⟩:=own_len hn7
  refine wpOp_one (o:=ogH3) (by rfl) rfl ?_
  unfold ogH3
  refine appOp (Operand.tmp 32) (Operand.tmp 34) 34 rfl (by kernel_rfl) (by kernel_rfl) hr7 ?_
  refine wpAny_all (rs:=[8]) (by kernel_rfl) (by simp) ?_
  intro i hi
  simp only [List.mem_singleton] at hi
  subst hi
  refine wpOp_one (o:=ogH4) (by rfl) rfl ?_
  unfold ogH4
  unfold Oper.wp
  go_simp
  refine wpAny_all (rs:=[9]) (by kernel_rfl) (by simp) ?_
  intro i hi
  simp only [List.mem_singleton] at hi
  subst hi
  refine wpOp_one (o:=ogH5) (by rfl) rfl ?_
  unfold ogH5
  unfold Oper.wp
  go_simp
  refine wpAny_all (rs:=[10]) (by kernel_rfl) (by simp) ?_
  intro i hi
  simp only [List.mem_singleton] at hi
  subst hi
  refine wpOp_one (o:=ogH6) (by rfl) rfl ?_
  unfold ogH6
  unfold Oper.wp
  go_simp
  refine wpAny_done (by kernel_rfl) ?_ _
  refine hQ _ _ _ _ _ _ _ _ _ _ _ (W7.setCell ⟨gb,1,none⟩ _) hGe ?_ ?_
  ·have a1:Fr (fun b=>b=gb ∨ ve.ownBlock=some b) W (World.alloc W (Obj.cells e.cs.toArray 49 (0,0))):=Fr.of_below ((Below.refl W.heap.size W).alloc (Nat.le_refl _) _)
   exact ((hF.trans a1).trans2 (Fr.of_grown hg7 (fun b q=>Or.inr q)) (fun _ _ q=>q)).trans2 (Fr.set W7 gb 1 _ (X:=fun b=>b=gb ∨ ve.ownBlock=some b) (Or.inl rfl)) (fun _ _ q=>q)
  ·rcases hv7 with q | q
   ·exact .inl q
   ·exact .inr ⟨_,q,by have:=hW.size; simp; omega⟩
 ·have y0:=cell_next x0 hW
  have y1:=cell_next x1 hW
  have y2:=cell_next x2 hW
  have y3:=cell_next x3 hW
  have y4:=cell_next x4 hW
  have y5:=cell_next x5 hW
  refine wpOp_one (o:=ogH1) (by rfl) rfl ?_
  unfold ogH1
  unfold Oper.wp
  go_simp
  clear y0 y1 y2 y3 y4 y5
  refine wpAny_all (rs:=[4,6]) (by kernel_rfl) (by simp) ?_
  intro i hi
  simp only [List.mem_cons,List.not_mem_nil,or_false] at hi
  rcases hi with rfl | rfl
  ·obtain ⟨d1,d2⟩:=GS.c1 hGd
   refine wpOp_one (o:=ogH0) (by rfl) rfl ?_
   unfold ogH0
   unfold Oper.wp
   go_simp
   clear d1 d2
   refine wpAny_all (rs:=[6]) (by kernel_rfl) (by simp) ?_
   intro i hi
   simp only [List.mem_singleton] at hi
   subst hi
   have hG6:=hGd.next ((Below.refl W.heap.size W).alloc (Nat.le_refl _) (Obj.cells #[.int .i64 e.th,.int .i64 e.kd,.int .i64 e.md,.int .i64 e.lc,.int .i64 e.vl,.bool e.ex] 49 (0,0)))
   refine wpOp_one (o:=ogH2) (by rfl) rfl ?_
   unfold ogH2
   unfold Oper.wp
   go_simp
   refine wpAny_all (rs:=[7]) (by kernel_rfl) (by simp) ?_
   intro i hi
   simp only [List.mem_singleton] at hi
   subst hi
   obtain ⟨v7,W7,hr7,hn7,hg7,hv7⟩:=app_any hG6.oe hG6.bel.size Try.underlying34 infoEv rfl (by omega) (by omega) 34 (some ⟨W.heap.size,0,none⟩) 1 1 e.cs rfl (.inr ⟨_,rfl,World.news_of_block (cs:=e.cs.toArray) (t:=49) (fr:=(0,0)) (heap_alloc_new W _)⟩) (by intro u hu; simp [Ev.cs] at hu; rcases hu with rfl | rfl | rfl | rfl | rfl | rfl <;> rfl) (by omega)
   obtain ⟨hGe,k1,k2⟩:=GS.grown (e:=e) hGd hn7 hg7 hv7
   obtain ⟨a7,c7,rfl⟩:=own_len hn7
   refine wpOp_one (o:=ogH3) (by rfl) rfl ?_
   unfold ogH3
   refine appOp (Operand.tmp 32) (Operand.tmp 34) 34 rfl (by kernel_rfl) (by kernel_rfl) hr7 ?_
   refine wpAny_all (rs:=[8]) (by kernel_rfl) (by simp) ?_
   intro i hi
   simp only [List.mem_singleton] at hi
   subst hi
   refine wpOp_one (o:=ogH4) (by rfl) rfl ?_
   unfold ogH4
   unfold Oper.wp
   go_simp
   refine wpAny_all (rs:=[9]) (by kernel_rfl) (by simp) ?_
   intro i hi
   simp only [List.mem_singleton] at hi
   subst hi
   refine wpOp_one (o:=ogH5) (by rfl) rfl ?_
   unfold ogH5
   unfold Oper.wp
   go_simp
   refine wpAny_all (rs:=[10]) (by kernel_rfl) (by simp) ?_
   intro i hi
   simp only [List.mem_singleton] at hi
   subst hi
   refine wpOp_one (o:=ogH6) (by rfl) rfl ?_
   unfold ogH6
   unfold Oper.wp
   go_simp
   refine wpAny_done (by kernel_rfl) ?_ _
   refine hQ _ _ _ _ _ _ _ _ _ _ _ (W7.setCell ⟨gb,1,none⟩ _) hGe ?_ ?_
   ·have a1:Fr (fun b=>b=gb ∨ ve.ownBlock=some b) W (World.alloc W (Obj.cells e.cs.toArray 49 (0,0))):=Fr.of_below ((Below.refl W.heap.size W).alloc (Nat.le_refl _) _)
    exact ((hF.trans a1).trans2 (Fr.of_grown hg7 (fun b q=>Or.inr q)) (fun _ _ q=>q)).trans2 (Fr.set W7 gb 1 _ (X:=fun b=>b=gb ∨ ve.ownBlock=some b) (Or.inl rfl)) (fun _ _ q=>q)
   ·rcases hv7 with q | q
    ·exact .inl q
    ·exact .inr ⟨_,q,by have:=hW.size; simp; omega⟩
  ·have hG6:=hGd.next ((Below.refl W.heap.size W).alloc (Nat.le_refl _) (Obj.cells #[.int .i64 e.th,.int .i64 e.kd,.int .i64 e.md,.int .i64 e.lc,.int .i64 e.vl,.bool e.ex] 49 (0,0)))
   refine wpOp_one (o:=ogH2) (by rfl) rfl ?_
   unfold ogH2
   unfold Oper.wp
   go_simp
   refine wpAny_all (rs:=[4]) (by kernel_rfl) (by simp) ?_
   intro i hi
   simp only [List.mem_singleton] at hi
   subst hi
   obtain ⟨d1,d2⟩:=GS.c1 hG6
   refine wpOp_one (o:=ogH0) (by rfl) rfl ?_
   unfold ogH0
   unfold Oper.wp
   go_simp
   clear d1 d2
   refine wpAny_all (rs:=[7]) (by kernel_rfl) (by simp) ?_
   intro i hi
   simp only [List.mem_singleton] at hi
   subst hi
   obtain ⟨v7,W7,hr7,hn7,hg7,hv7⟩:=app_any hG6.oe hG6.bel.size Try.underlying34 infoEv rfl (by omega) (by omega) 34 (some ⟨W.heap.size,0,none⟩) 1 1 e.cs rfl (.inr ⟨_,rfl,World.news_of_block (cs:=e.cs.toArray) (t:=49) (fr:=(0,0)) (heap_alloc_new W _)⟩) (by intro u hu; simp [Ev.cs] at hu; rcases hu with rfl | rfl | rfl | rfl | rfl | rfl <;> rfl) (by omega)
   obtain ⟨hGe,k1,k2⟩:=GS.grown (e:=e) hGd hn7 hg7 hv7
   obtain ⟨a7,c7,rfl⟩:=own_len hn7
   refine wpOp_one (o:=ogH3) (by rfl) rfl ?_
   unfold ogH3
   refine appOp (Operand.tmp 32) (Operand.tmp 34) 34 rfl (by kernel_rfl) (by kernel_rfl) hr7 ?_
   refine wpAny_all (rs:=[8]) (by kernel_rfl) (by simp) ?_
   intro i hi
   simp only [List.mem_singleton] at hi
   subst hi
   refine wpOp_one (o:=ogH4) (by rfl) rfl ?_
   unfold ogH4
   unfold Oper.wp
   go_simp
   refine wpAny_all (rs:=[9]) (by kernel_rfl) (by simp) ?_
   intro i hi
   simp only [List.mem_singleton] at hi
   subst hi
   refine wpOp_one (o:=ogH5) (by rfl) rfl ?_
   unfold ogH5
   unfold Oper.wp
   go_simp
   refine wpAny_all (rs:=[10]) (by kernel_rfl) (by simp) ?_
   intro i hi
   simp only [List.mem_singleton] at hi
   subst hi
   refine wpOp_one (o:=ogH6) (by rfl) rfl ?_
   unfold ogH6
   unfold Oper.wp
   go_simp
   refine wpAny_done (by kernel_rfl) ?_ _
   refine hQ _ _ _ _ _ _ _ _ _ _ _ (W7.setCell ⟨gb,1,none⟩ _) hGe ?_ ?_
   ·have a1:Fr (fun b=>b=gb ∨ ve.ownBlock=some b) W (World.alloc W (Obj.cells e.cs.toArray 49 (0,0))):=Fr.of_below ((Below.refl W.heap.size W).alloc (Nat.le_refl _) _)
    exact ((hF.trans a1).trans2 (Fr.of_grown hg7 (fun b q=>Or.inr q)) (fun _ _ q=>q)).trans2 (Fr.set W7 gb 1 _ (X:=fun b=>b=gb ∨ ve.ownBlock=some b) (Or.inl rfl)) (fun _ _ q=>q)
   ·rcases hv7 with q | q
    ·exact .inl q
    ·exact .inr ⟨_,q,by have:=hW.size; simp; omega⟩
set_option maxRecDepth 20000 in
set_option maxHeartbeats 4000000 in
theorem layreg8_l (w0 w:World) (gb rb:Nat) (n locs:Int) (ve vr:Value) (E:List Ev) (L:List (Int × Int)) (gv:Nat→Value) (pi:Nat→List (Int × Int)) (hG:GS w0 w gb locs ve E gv pi) (hp:(pi 4).length≤1000) (hx:w.cell? ⟨rb,1,none⟩=some vr) (hvr:PV w vr L) (hL:L.length≤500)
  (z1 z2 z3 z5 z7 z8 z9 z10 z11 z12 z13 z14 z15 z16 z17 z18 z19 z20 z21 z22 z23 z24 z25 z26 z27 z28 z29 z30 z31 z32 z33 z34 z35 z36 z37 z38 z39 z40 z41 z42 z43 z44 z45 z46 z47 z48 z49 z50 z51 z52 z53 z54 z55 z56 z57 z58 z59 z60 z61 z62 z63 z64 z65 z66 z67 z68 z69 z70 z71 z72 z73 z74 z75 z76 z77 z78 z79 z80 z81 z82 z83 z84 z85:Value) (Q:Exit→Act→World→Prop)
  (hQp:∀ c (a:Act) (d:Tmp) v w,Q (.panic c) (a.put (some d) v) w→Q (.panic c) a w)
  (hQ:∀ (y38 y39 y40 y41 y42 y43 y44 y45 y46 y47 y48 y49 v1:Value) (W:World),GS w0 W gb locs ve E (updF gv 4 v1) (updF pi 4 (pi 4 ++ L.map (mvd n)))→Fr (fun b=>b=gb ∨ (gv 4).ownBlock=some b) w W→NewB w (gv 4) v1→Q .normal { tmps:=(.pointer (some ⟨gb,0,none⟩)::z1::z2::z3::.pointer (some ⟨rb,0,none⟩)::z5::.int .i64 n::z7::z8::z9::z10::z11::z12::z13::z14::z15::z16::z17::z18::z19::z20::z21::z22::z23::z24::z25::z26::z27::z28::z29::z30::z31::z32::z33::z34::z35::z36::z37::y38::y39::y40::y41::y42::y43::y44::y45::y46::y47::y48::y49::z50::z51::z52::z53::z54::z55::z56::z57::z58::z59::z60::z61::z62::z63::z64::z65::z66::z67::z68::z69::z70::z71::z72::z73::z74::z75::z76::z77::z78::z79::z80::z81::z82::z83::z84::z85::[]).toArray,defers:=[] } W) :
  Code.wp Try.prog (Code.region 8 rgH1 true) Q { tmps:=(.pointer (some ⟨gb,0,none⟩)::z1::z2::z3::.pointer (some ⟨rb,0,none⟩)::z5::.int .i64 n::z7::z8::z9::z10::z11::z12::z13::z14::z15::z16::z17::z18::z19::z20::z21::z22::z23::z24::z25::z26::z27::z28::z29::z30::z31::z32::z33::z34::z35::z36::z37::z38::z39::z40::z41::z42::z43::z44::z45::z46::z47::z48::z49::z50::z51::z52::z53::z54::z55::z56::z57::z58::z59::z60::z61::z62::z63::z64::z65::z66::z67::z68::z69::z70::z71::z72::z73::z74::z75::z76::z77::z78::z79::z80::z81::z82::z83::z84::z85::[]).toArray,defers:=[] } w:=by
 unfold rgH1
 refine wp_region_any (by kernel_rfl) ?_
 have hGd:=hG.drew
 have hF:Fr (fun b=>b=gb ∨ (gv 4).ownBlock=some b) w (World.drew w):=Fr.of_below (bel_drewN w 1)
 have hW:Below w.heap.size w (World.drew w):=bel_drewN w 1
 obtain ⟨pa,pc,rfl⟩:=own_len hvr
 clear hG
 change wpAny _ _ _ _ _ _ _ (World.drew _)
 generalize World.drew w=W at hGd hF hW ⊢
 refine wpAny_take (i:=0) (v:=.pointer (some ⟨gb,0,none⟩)) rfl (by kernel_rfl) (by kernel_rfl) (by kernel_rfl) (fun c a w=>hQp c a _ _ w) (Or.inl ⟨by rfl,?_⟩) ?_
 ·intro w
  go_simp
 refine wpAny_take (i:=1) (v:=.pointer (some ⟨gb,0,none⟩)) rfl (by kernel_rfl) (by kernel_rfl) (by kernel_rfl) (fun c a w=>hQp c a _ _ w) (Or.inl ⟨by rfl,?_⟩) ?_
 ·intro w
  go_simp
 refine wpAny_take (i:=2) (v:=.pointer (some ⟨gb,0,none⟩)) rfl (by kernel_rfl) (by kernel_rfl) (by kernel_rfl) (fun c a w=>hQp c a _ _ w) (Or.inl ⟨by rfl,?_⟩) ?_
 ·intro w
  go_simp
 refine wpAny_take (i:=3) (v:=.pointer (some ⟨gb,4,none⟩)) rfl (by kernel_rfl) (by kernel_rfl) (by kernel_rfl) (fun c a w=>hQp c a _ _ w) (Or.inl ⟨by rfl,?_⟩) ?_
 ·intro w
  go_simp
 refine wpAny_take (i:=5) (v:=.pointer (some ⟨rb,1,none⟩)) rfl (by kernel_rfl) (by kernel_rfl) (by kernel_rfl) (fun c a w=>hQp c a _ _ w) (Or.inl ⟨by rfl,?_⟩) ?_
 ·intro w
  go_simp
 refine wpAny_take (i:=7) (v:=.int .i64 n) rfl (by kernel_rfl) (by kernel_rfl) (by kernel_rfl) (fun c a w=>hQp c a _ _ w) (Or.inl ⟨by rfl,?_⟩) ?_
 ·intro w
  go_simp
 show wpAny _ _ _ _ 7 _ _ _
 refine wpAny_all (rs:=[4,6]) (by kernel_rfl) (by simp) ?_
 intro i hi
 simp only [List.mem_cons,List.not_mem_nil,or_false] at hi
 rcases hi with rfl | rfl
 ·obtain ⟨d1,d2⟩:=GS.ck hGd 4 (by omega) (by omega)
  refine wpOp_one (o:=ogH7) (by rfl) rfl ?_
  unfold ogH7
  unfold Oper.wp
  go_simp
  clear d1 d2
  refine wpAny_all (rs:=[6]) (by kernel_rfl) (by simp) ?_
  intro i hi
  simp only [List.mem_singleton] at hi
  subst hi
  have y:=cell_next hx hW
  refine wpOp_one (o:=ogH8) (by rfl) rfl ?_
  unfold ogH8
  unfold Oper.wp
  go_simp
  clear y
  refine wpAny_all (rs:=[8]) (by kernel_rfl) (by simp) ?_
  intro i hi
  simp only [List.mem_singleton] at hi
  subst hi
  refine wpOp_one (o:=ogH9) (by rfl) rfl ?_
  unfold ogH9
  unfold Oper.wp
  go_simp
  refine (moved_any _ L n W (hvr.next hW) hL).mono ?_
  rintro e8 W8 ⟨⟨v8,rfl,hv8⟩,hb8⟩
  dsimp only
  have hG8:=hGd.next hb8
  have hF8:Fr (fun b=>b=gb ∨ (gv 4).ownBlock=some b) W W8:=Fr.of_below hb8
  obtain ⟨a8,c8,e8⟩:=own_len hv8
  have hl8:(L.map (mvd n)).length=L.length:=by simp
  have hn8:L.length=0 ∨ ∃ ad,a8=some ad∧∀ j u,(icells (L.map (mvd n)))[j]?=some u→W8.cell? (ad.add j)=some u:=by
   rcases hv8.form with ⟨_,q⟩ | ⟨g,c',q,_,_,_,hc⟩
   ·exact .inl (by rw [← hl8,q]; rfl)
   ·have q0:=q
    rw [e8] at q0
    simp only [Value.slice.injEq] at q0
    refine .inr ⟨⟨g,0,none⟩,q0.1,fun j u hj=>?_⟩
    have hh:=World.ownsRow.cells hv8 (g:=g) (by rw [q]; rfl) j u hj
    exact hh
  rw [hl8] at e8
  subst e8
  refine wpAny_all (rs:=[9]) (by kernel_rfl) (by simp) ?_
  intro i hi
  simp only [List.mem_singleton] at hi
  subst hi
  obtain ⟨v9,W9,hr9,hn9,hg9,hv9⟩:=app_any (hG8.op 4 (by omega) (by omega)) hG8.bel.size Try.underlying36 infoPair rfl (by omega) (by omega) 36 a8 L.length c8 (icells (L.map (mvd n))) (by rw [icells_len,hl8]) hn8 (icells_one _) (by omega)
  refine wpOp_one (o:=ogH10) (by rfl) rfl ?_
  unfold ogH10
  refine appOp (Operand.tmp 42) (Operand.tmp 46) 36 rfl (by kernel_rfl) (by kernel_rfl) hr9 ?_
  refine wpAny_all (rs:=[10]) (by kernel_rfl) (by simp) ?_
  intro i hi
  simp only [List.mem_singleton] at hi
  subst hi
  refine wpOp_one (o:=ogH11) (by rfl) rfl ?_
  unfold ogH11
  unfold Oper.wp
  go_simp
  refine wpAny_all (rs:=[11]) (by kernel_rfl) (by simp) ?_
  intro i hi
  simp only [List.mem_singleton] at hi
  subst hi
  refine wpOp_one (o:=ogH12) (by rfl) rfl ?_
  unfold ogH12
  unfold Oper.wp
  go_simp
  refine wpAny_all (rs:=[12]) (by kernel_rfl) (by simp) ?_
  intro i hi
  simp only [List.mem_singleton] at hi
  subst hi
  have hbx:=(hg9.block gb hG8.lt (fun q=>hG8.ne_b.2.1 4 (by omega) (by omega) q.symm)).trans hG8.box
  have f1:W9.cell? ⟨gb,4,none⟩=some (gv 4):=by simp only [World.cell?,hbx]; rfl
  have f2:W9.frozen? ⟨gb,4,none⟩=false:=by simp only [World.frozen?,hbx]; rfl
  have hGe:=hG8.growP (k:=4) (by omega) (by omega) hg9 (L':=pi 4 ++ L.map (mvd n)) (by rw [List.length_append,hl8,icells_app]; exact hn9) hv9
  obtain ⟨a9,c9,rfl⟩:=own_len hn9
  refine wpOp_one (o:=ogH13) (by rfl) rfl ?_
  unfold ogH13
  unfold Oper.wp
  go_simp
  refine wpAny_done (by kernel_rfl) ?_ _
  refine hQ _ _ _ _ _ _ _ _ _ _ _ _ _ (W9.setCell ⟨gb,4,none⟩ _) hGe ?_ ?_
  ·exact ((hF.trans hF8).trans2 (Fr.of_grown hg9 (fun b q=>Or.inr q)) (fun _ _ q=>q)).trans2 (Fr.set W9 gb 4 _ (X:=fun b=>b=gb ∨ (gv 4).ownBlock=some b) (Or.inl rfl)) (fun _ _ q=>q)
  ·rcases hv9 with q | q
   ·exact .inl q
   ·exact .inr ⟨_,q,by have:=hW.size; have:=hb8.size; omega⟩
 ·have y:=cell_next hx hW
  refine wpOp_one (o:=ogH8) (by rfl) rfl ?_
  unfold ogH8
  unfold Oper.wp
  go_simp
  clear y
  refine wpAny_all (rs:=[4,8]) (by kernel_rfl) (by simp) ?_
  intro i hi
  simp only [List.mem_cons,List.not_mem_nil,or_false] at hi
  rcases hi with rfl | rfl
  ·obtain ⟨d1,d2⟩:=GS.ck hGd 4 (by omega) (by omega)
   refine wpOp_one (o:=ogH7) (by rfl) rfl ?_
   unfold ogH7
   unfold Oper.wp
   go_simp
   clear d1 d2
   refine wpAny_all (rs:=[8]) (by kernel_rfl) (by simp) ?_
   intro i hi
   simp only [List.mem_singleton] at hi
   subst hi
   refine wpOp_one (o:=ogH9) (by rfl) rfl ?_
   unfold ogH9
   unfold Oper.wp
   go_simp
   refine (moved_any _ L n W (hvr.next hW) hL).mono ?_
   rintro e8 W8 ⟨⟨v8,rfl,hv8⟩,hb8⟩
   dsimp only
   have hG8:=hGd.next hb8
   have hF8:Fr (fun b=>b=gb ∨ (gv 4).ownBlock=some b) W W8:=Fr.of_below hb8
   obtain ⟨a8,c8,e8⟩:=own_len hv8
   have hl8:(L.map (mvd n)).length=L.length:=by simp
   have hn8:L.length=0 ∨ ∃ ad,a8=some ad∧∀ j u,(icells (L.map (mvd n)))[j]?=some u→W8.cell? (ad.add j)=some u:=by
    rcases hv8.form with ⟨_,q⟩ | ⟨g,c',q,_,_,_,hc⟩
    ·exact .inl (by rw [← hl8,q]; rfl)
    ·have q0:=q
     rw [e8] at q0
     simp only [Value.slice.injEq] at q0
     refine .inr ⟨⟨g,0,none⟩,q0.1,fun j u hj=>?_⟩
     have hh:=World.ownsRow.cells hv8 (g:=g) (by rw [q]; rfl) j u hj
     exact hh
   rw [hl8] at e8
   subst e8
   refine wpAny_all (rs:=[9]) (by kernel_rfl) (by simp) ?_
   intro i hi
   simp only [List.mem_singleton] at hi
   subst hi
   obtain ⟨v9,W9,hr9,hn9,hg9,hv9⟩:=app_any (hG8.op 4 (by omega) (by omega)) hG8.bel.size Try.underlying36 infoPair rfl (by omega) (by omega) 36 a8 L.length c8 (icells (L.map (mvd n))) (by rw [icells_len,hl8]) hn8 (icells_one _) (by omega)
   refine wpOp_one (o:=ogH10) (by rfl) rfl ?_
   unfold ogH10
   refine appOp (Operand.tmp 42) (Operand.tmp 46) 36 rfl (by kernel_rfl) (by kernel_rfl) hr9 ?_
   refine wpAny_all (rs:=[10]) (by kernel_rfl) (by simp) ?_
   intro i hi
   simp only [List.mem_singleton] at hi
   subst hi
   refine wpOp_one (o:=ogH11) (by rfl) rfl ?_
   unfold ogH11
   unfold Oper.wp
   go_simp
   refine wpAny_all (rs:=[11]) (by kernel_rfl) (by simp) ?_
   intro i hi
   simp only [List.mem_singleton] at hi
   subst hi
   refine wpOp_one (o:=ogH12) (by rfl) rfl ?_
   unfold ogH12
   unfold Oper.wp
   go_simp
   refine wpAny_all (rs:=[12]) (by kernel_rfl) (by simp) ?_
   intro i hi
   simp only [List.mem_singleton] at hi
   subst hi
   have hbx:=(hg9.block gb hG8.lt (fun q=>hG8.ne_b.2.1 4 (by omega) (by omega) q.symm)).trans hG8.box
   have f1:W9.cell? ⟨gb,4,none⟩=some (gv 4):=by simp only [World.cell?,hbx]; rfl
   have f2:W9.frozen? ⟨gb,4,none⟩=false:=by simp only [World.frozen?,hbx]; rfl
   have hGe:=hG8.growP (k:=4) (by omega) (by omega) hg9 (L':=pi 4 ++ L.map (mvd n)) (by rw [List.length_append,hl8,icells_app]; exact hn9) hv9
   obtain ⟨a9,c9,rfl⟩:=own_len hn9
   refine wpOp_one (o:=ogH13) (by rfl) rfl ?_
   unfold ogH13
   unfold Oper.wp
   go_simp
   refine wpAny_done (by kernel_rfl) ?_ _
   refine hQ _ _ _ _ _ _ _ _ _ _ _ _ _ (W9.setCell ⟨gb,4,none⟩ _) hGe ?_ ?_
   ·exact ((hF.trans hF8).trans2 (Fr.of_grown hg9 (fun b q=>Or.inr q)) (fun _ _ q=>q)).trans2 (Fr.set W9 gb 4 _ (X:=fun b=>b=gb ∨ (gv 4).ownBlock=some b) (Or.inl rfl)) (fun _ _ q=>q)
   ·rcases hv9 with q | q
    ·exact .inl q
    ·exact .inr ⟨_,q,by have:=hW.size; have:=hb8.size; omega⟩
  ·refine wpOp_one (o:=ogH9) (by rfl) rfl ?_
   unfold ogH9
   unfold Oper.wp
   go_simp
   refine (moved_any _ L n W (hvr.next hW) hL).mono ?_
   rintro e8 W8 ⟨⟨v8,rfl,hv8⟩,hb8⟩
   dsimp only
   have hG8:=hGd.next hb8
   have hF8:Fr (fun b=>b=gb ∨ (gv 4).ownBlock=some b) W W8:=Fr.of_below hb8
   obtain ⟨a8,c8,e8⟩:=own_len hv8
   have hl8:(L.map (mvd n)).length=L.length:=by simp
   have hn8:L.length=0 ∨ ∃ ad,a8=some ad∧∀ j u,(icells (L.map (mvd n)))[j]?=some u→W8.cell? (ad.add j)=some u:=by
    rcases hv8.form with ⟨_,q⟩ | ⟨g,c',q,_,_,_,hc⟩
    ·exact .inl (by rw [← hl8,q]; rfl)
    ·have q0:=q
     rw [e8] at q0
     simp only [Value.slice.injEq] at q0
     refine .inr ⟨⟨g,0,none⟩,q0.1,fun j u hj=>?_⟩
     have hh:=World.ownsRow.cells hv8 (g:=g) (by rw [q]; rfl) j u hj
     exact hh
   rw [hl8] at e8
   subst e8
   refine wpAny_all (rs:=[4]) (by kernel_rfl) (by simp) ?_
   intro i hi
   simp only [List.mem_singleton] at hi
   subst hi
   obtain ⟨d1,d2⟩:=GS.ck hG8 4 (by omega) (by omega)
   refine wpOp_one (o:=ogH7) (by rfl) rfl ?_
   unfold ogH7
   unfold Oper.wp
   go_simp
   clear d1 d2
   refine wpAny_all (rs:=[9]) (by kernel_rfl) (by simp) ?_
   intro i hi
   simp only [List.mem_singleton] at hi
   subst hi
   obtain ⟨v9,W9,hr9,hn9,hg9,hv9⟩:=app_any (hG8.op 4 (by omega) (by omega)) hG8.bel.size Try.underlying36 infoPair rfl (by omega) (by omega) 36 a8 L.length c8 (icells (L.map (mvd n))) (by rw [icells_len,hl8]) hn8 (icells_one _) (by omega)
   refine wpOp_one (o:=ogH10) (by rfl) rfl ?_
   unfold ogH10
   refine appOp (Operand.tmp 42) (Operand.tmp 46) 36 rfl (by kernel_rfl) (by kernel_rfl) hr9 ?_
   refine wpAny_all (rs:=[10]) (by kernel_rfl) (by simp) ?_
   intro i hi
   simp only [List.mem_singleton] at hi
   subst hi
   refine wpOp_one (o:=ogH11) (by rfl) rfl ?_
   unfold ogH11
   unfold Oper.wp
   go_simp
   refine wpAny_all (rs:=[11]) (by kernel_rfl) (by simp) ?_
   intro i hi
   simp only [List.mem_singleton] at hi
   subst hi
   refine wpOp_one (o:=ogH12) (by rfl) rfl ?_
   unfold ogH12
   unfold Oper.wp
   go_simp
   refine wpAny_all (rs:=[12]) (by kernel_rfl) (by simp) ?_
   intro i hi
   simp only [List.mem_singleton] at hi
   subst hi
   have hbx:=(hg9.block gb hG8.lt (fun q=>hG8.ne_b.2.1 4 (by omega) (by omega) q.symm)).trans hG8.box
   have f1:W9.cell? ⟨gb,4,none⟩=some (gv 4):=by simp only [World.cell?,hbx]; rfl
   have f2:W9.frozen? ⟨gb,4,none⟩=false:=by simp only [World.frozen?,hbx]; rfl
   have hGe:=hG8.growP (k:=4) (by omega) (by omega) hg9 (L':=pi 4 ++ L.map (mvd n)) (by rw [List.length_append,hl8,icells_app]; exact hn9) hv9
   obtain ⟨a9,c9,rfl⟩:=own_len hn9
   refine wpOp_one (o:=ogH13) (by rfl) rfl ?_
   unfold ogH13
   unfold Oper.wp
   go_simp
   refine wpAny_done (by kernel_rfl) ?_ _
   refine hQ _ _ _ _ _ _ _ _ _ _ _ _ _ (W9.setCell ⟨gb,4,none⟩ _) hGe ?_ ?_
   ·exact ((hF.trans hF8).trans2 (Fr.of_grown hg9 (fun b q=>Or.inr q)) (fun _ _ q=>q)).trans2 (Fr.set W9 gb 4 _ (X:=fun b=>b=gb ∨ (gv 4).ownBlock=some b) (Or.inl rfl)) (fun _ _ q=>q)
   ·rcases hv9 with q | q
    ·exact .inl q
    ·exact .inr ⟨_,q,by have:=hW.size; have:=hb8.size; omega⟩
set_option maxRecDepth 20000 in
set_option maxHeartbeats 4000000 in
theorem layreg9_l (w0 w:World) (gb rb:Nat) (n locs:Int) (ve vr:Value) (E:List Ev) (L:List (Int × Int)) (gv:Nat→Value) (pi:Nat→List (Int × Int)) (hG:GS w0 w gb locs ve E gv pi) (hp:(pi 5).length≤1000) (hx:w.cell? ⟨rb,2,none⟩=some vr) (hvr:PV w vr L) (hL:L.length≤500)
  (z1 z2 z3 z5 z7 z8 z9 z10 z11 z12 z13 z14 z15 z16 z17 z18 z19 z20 z21 z22 z23 z24 z25 z26 z27 z28 z29 z30 z31 z32 z33 z34 z35 z36 z37 z38 z39 z40 z41 z42 z43 z44 z45 z46 z47 z48 z49 z50 z51 z52 z53 z54 z55 z56 z57 z58 z59 z60 z61 z62 z63 z64 z65 z66 z67 z68 z69 z70 z71 z72 z73 z74 z75 z76 z77 z78 z79 z80 z81 z82 z83 z84 z85:Value) (Q:Exit→Act→World→Prop)
  (hQp:∀ c (a:Act) (d:Tmp) v w,Q (.panic c) (a.put (some d) v) w→Q (.panic c) a w)
  (hQ:∀ (y50 y51 y52 y53 y54 y55 y56 y57 y58 y59 y60 y61 v1:Value) (W:World),GS w0 W gb locs ve E (updF gv 5 v1) (updF pi 5 (pi 5 ++ L.map (mvd n)))→Fr (fun b=>b=gb ∨ (gv 5).ownBlock=some b) w W→NewB w (gv 5) v1→Q .normal { tmps:=(.pointer (some ⟨gb,0,none⟩)::z1::z2::z3::.pointer (some ⟨rb,0,none⟩)::z5::.int .i64 n::z7::z8::z9::z10::z11::z12::z13::z14::z15::z16::z17::z18::z19::z20::z21::z22::z23::z24::z25::z26::z27::z28::z29::z30::z31::z32::z33::z34::z35::z36::z37::z38::z39::z40::z41::z42::z43::z44::z45::z46::z47::z48::z49::y50::y51::y52::y53::y54::y55::y56::y57::y58::y59::y60::y61::z62::z63::z64::z65::z66::z67::z68::z69::z70::z71::z72::z73::z74::z75::z76::z77::z78::z79::z80::z81::z82::z83::z84::z85::[]).toArray,defers:=[] } W) :
  Code.wp Try.prog (Code.region 9 rgH2 true) Q { tmps:=(.pointer (some ⟨gb,0,none⟩)::z1::z2::z3::.pointer (some ⟨rb,0,none⟩)::z5::.int .i64 n::z7::z8::z9::z10::z11::z12::z13::z14::z15::z16::z17::z18::z19::z20::z21::z22::z23::z24::z25::z26::z27::z28::z29::z30::z31::z32::z33::z34::z35::z36::z37::z38::z39::z40::z41::z42::z43::z44::z45::z46::z47::z48::z49::z50::z51::z52::z53::z54::z55::z56::z57::z58::z59::z60::z61::z62::z63::z64::z65::z66::z67::z68::z69::z70::z71::z72::z73::z74::z75::z76::z77::z78::z79::z80::z81::z82::z83::z84::z85::[]).toArray,defers:=[] } w:=by
 unfold rgH2
 refine wp_region_any (by kernel_rfl) ?_
 have hGd:=hG.drew
 have hF:Fr (fun b=>b=gb ∨ (gv 5).ownBlock=some b) w (World.drew w):=Fr.of_below (bel_drewN w 1)
 have hW:Below w.heap.size w (World.drew w):=bel_drewN w 1
 obtain ⟨pa,pc,rfl⟩:=own_len hvr
 clear hG
 change wpAny _ _ _ _ _ _ _ (World.drew _)
 generalize World.drew w=W at hGd hF hW ⊢
 refine wpAny_take (i:=0) (v:=.pointer (some ⟨gb,0,none⟩)) rfl (by kernel_rfl) (by kernel_rfl) (by kernel_rfl) (fun c a w=>hQp c a _ _ w) (Or.inl ⟨by rfl,?_⟩) ?_
 ·intro w
  go_simp
 refine wpAny_take (i:=1) (v:=.pointer (some ⟨gb,0,none⟩)) rfl (by kernel_rfl) (by kernel_rfl) (by kernel_rfl) (fun c a w=>hQp c a _ _ w) (Or.inl ⟨by rfl,?_⟩) ?_
 ·intro w
  go_simp
 refine wpAny_take (i:=2) (v:=.pointer (some ⟨gb,0,none⟩)) rfl (by kernel_rfl) (by kernel_rfl) (by kernel_rfl) (fun c a w=>hQp c a _ _ w) (Or.inl ⟨by rfl,?_⟩) ?_
 ·intro w
  go_simp
 refine wpAny_take (i:=3) (v:=.pointer (some ⟨gb,5,none⟩)) rfl (by kernel_rfl) (by kernel_rfl) (by kernel_rfl) (fun c a w=>hQp c a _ _ w) (Or.inl ⟨by rfl,?_⟩) ?_
 ·intro w
  go_simp
 refine wpAny_take (i:=5) (v:=.pointer (some ⟨rb,2,none⟩)) rfl (by kernel_rfl) (by kernel_rfl) (by kernel_rfl) (fun c a w=>hQp c a _ _ w) (Or.inl ⟨by rfl,?_⟩) ?_
 ·intro w
  go_simp
 refine wpAny_take (i:=7) (v:=.int .i64 n) rfl (by kernel_rfl) (by kernel_rfl) (by kernel_rfl) (fun c a w=>hQp c a _ _ w) (Or.inl ⟨by rfl,?_⟩) ?_
 ·intro w
  go_simp
 show wpAny _ _ _ _ 7 _ _ _
 refine wpAny_all (rs:=[4,6]) (by kernel_rfl) (by simp) ?_
 intro i hi
 simp only [List.mem_cons,List.not_mem_nil,or_false] at hi
 rcases hi with rfl | rfl
 ·obtain ⟨d1,d2⟩:=GS.ck hGd 5 (by omega) (by omega)
  refine wpOp_one (o:=ogH14) (by rfl) rfl ?_
  unfold ogH14
  unfold Oper.wp
  go_simp
  clear d1 d2
  refine wpAny_all (rs:=[6]) (by kernel_rfl) (by simp) ?_
  intro i hi
  simp only [List.mem_singleton] at hi
  subst hi
  have y:=cell_next hx hW
  refine wpOp_one (o:=ogH15) (by rfl) rfl ?_
  unfold ogH15
  unfold Oper.wp
  go_simp
  clear y
  refine wpAny_all (rs:=[8]) (by kernel_rfl) (by simp) ?_
  intro i hi
  simp only [List.mem_singleton] at hi
  subst hi
  refine wpOp_one (o:=ogH16) (by rfl) rfl ?_
  unfold ogH16
  unfold Oper.wp
  go_simp
  refine (moved_any _ L n W (hvr.next hW) hL).mono ?_
  rintro e8 W8 ⟨⟨v8,rfl,hv8⟩,hb8⟩
  dsimp only
  have hG8:=hGd.next hb8
  have hF8:Fr (fun b=>b=gb ∨ (gv 5).ownBlock=some b) W W8:=Fr.of_below hb8
  obtain ⟨a8,c8,e8⟩:=own_len hv8
  have hl8:(L.map (mvd n)).length=L.length:=by simp
  have hn8:L.length=0 ∨ ∃ ad,a8=some ad∧∀ j u,(icells (L.map (mvd n)))[j]?=some u→W8.cell? (ad.add j)=some u:=by
   rcases hv8.form with ⟨_,q⟩ | ⟨g,c',q,_,_,_,hc⟩
   ·exact .inl (by rw [← hl8,q]; rfl)
   ·have q0:=q
    rw [e8] at q0
    simp only [Value.slice.injEq] at q0
    refine .inr ⟨⟨g,0,none⟩,q0.1,fun j u hj=>?_⟩
    have hh:=World.ownsRow.cells hv8 (g:=g) (by rw [q]; rfl) j u hj
    exact hh
  rw [hl8] at e8
  subst e8
  refine wpAny_all (rs:=[9]) (by kernel_rfl) (by simp) ?_
  intro i hi
  simp only [List.mem_singleton] at hi
  subst hi
  obtain ⟨v9,W9,hr9,hn9,hg9,hv9⟩:=app_any (hG8.op 5 (by omega) (by omega)) hG8.bel.size Try.underlying36 infoPair rfl (by omega) (by omega) 36 a8 L.length c8 (icells (L.map (mvd n))) (by rw [icells_len,hl8]) hn8 (icells_one _) (by omega)
  refine wpOp_one (o:=ogH17) (by rfl) rfl ?_
  unfold ogH17
  refine appOp (Operand.tmp 54) (Operand.tmp 58) 36 rfl (by kernel_rfl) (by kernel_rfl) hr9 ?_
  refine wpAny_all (rs:=[10]) (by kernel_rfl) (by simp) ?_
  intro i hi
  simp only [List.mem_singleton] at hi
  subst hi
  refine wpOp_one (o:=ogH18) (by rfl) rfl ?_
  unfold ogH18
  unfold Oper.wp
  go_simp
  refine wpAny_all (rs:=[11]) (by kernel_rfl) (by simp) ?_
  intro i hi
  simp only [List.mem_singleton] at hi
  subst hi
  refine wpOp_one (o:=ogH19) (by rfl) rfl ?_
  unfold ogH19
  unfold Oper.wp
  go_simp
  refine wpAny_all (rs:=[12]) (by kernel_rfl) (by simp) ?_
  intro i hi
  simp only [List.mem_singleton] at hi
  subst hi
  have hbx:=(hg9.block gb hG8.lt (fun q=>hG8.ne_b.2.1 5 (by omega) (by omega) q.symm)).trans hG8.box
  have f1:W9.cell? ⟨gb,5,none⟩=some (gv 5):=by simp only [World.cell?,hbx]; rfl
  have f2:W9.frozen? ⟨gb,5,none⟩=false:=by simp only [World.frozen?,hbx]; rfl
  have hGe:=hG8.growP (k:=5) (by omega) (by omega) hg9 (L':=pi 5 ++ L.map (mvd n)) (by rw [List.length_append,hl8,icells_app]; exact hn9) hv9
  obtain ⟨a9,c9,rfl⟩:=own_len hn9
  refine wpOp_one (o:=ogH20) (by rfl) rfl ?_
  unfold ogH20
  unfold Oper.wp
  go_simp
  refine wpAny_done (by kernel_rfl) ?_ _
  refine hQ _ _ _ _ _ _ _ _ _ _ _ _ _ (W9.setCell ⟨gb,5,none⟩ _) hGe ?_ ?_
  ·exact ((hF.trans hF8).trans2 (Fr.of_grown hg9 (fun b q=>Or.inr q)) (fun _ _ q=>q)).trans2 (Fr.set W9 gb 5 _ (X:=fun b=>b=gb ∨ (gv 5).ownBlock=some b) (Or.inl rfl)) (fun _ _ q=>q)
  ·rcases hv9 with q | q
   ·exact .inl q
   ·exact .inr ⟨_,q,by have:=hW.size; have:=hb8.size; omega⟩
 ·have y:=cell_next hx hW
  refine wpOp_one (o:=ogH15) (by rfl) rfl ?_
  unfold ogH15
  unfold Oper.wp
  go_simp
  clear y
  refine wpAny_all (rs:=[4,8]) (by kernel_rfl) (by simp) ?_
  intro i hi
  simp only [List.mem_cons,List.not_mem_nil,or_false] at hi
  rcases hi with rfl | rfl
  ·obtain ⟨d1,d2⟩:=GS.ck hGd 5 (by omega) (by omega)
   refine wpOp_one (o:=ogH14) (by rfl) rfl ?_
   unfold ogH14
   unfold Oper.wp
   go_simp
   clear d1 d2
   refine wpAny_all (rs:=[8]) (by kernel_rfl) (by simp) ?_
   intro i hi
   simp only [List.mem_singleton] at hi
   subst hi
   refine wpOp_one (o:=ogH16) (by rfl) rfl ?_
   unfold ogH16
   unfold Oper.wp
   go_simp
   refine (moved_any _ L n W (hvr.next hW) hL).mono ?_
   rintro e8 W8 ⟨⟨v8,rfl,hv8⟩,hb8⟩
   dsimp only
   have hG8:=hGd.next hb8
   have hF8:Fr (fun b=>b=gb ∨ (gv 5).ownBlock=some b) W W8:=Fr.of_below hb8
   obtain ⟨a8,c8,e8⟩:=own_len hv8
   have hl8:(L.map (mvd n)).length=L.length:=by simp
   have hn8:L.length=0 ∨ ∃ ad,a8=some ad∧∀ j u,(icells (L.map (mvd n)))[j]?=some u→W8.cell? (ad.add j)=some u:=by
    rcases hv8.form with ⟨_,q⟩ | ⟨g,c',q,_,_,_,hc⟩
    ·exact .inl (by rw [← hl8,q]; rfl)
    ·have q0:=q
     rw [e8] at q0
     simp only [Value.slice.injEq] at q0
     refine .inr ⟨⟨g,0,none⟩,q0.1,fun j u hj=>?_⟩
     have hh:=World.ownsRow.cells hv8 (g:=g) (by rw [q]; rfl) j u hj
     exact hh
   rw [hl8] at e8
   subst e8
   refine wpAny_all (rs:=[9]) (by kernel_rfl) (by simp) ?_
   intro i hi
   simp only [List.mem_singleton] at hi
   subst hi
   obtain ⟨v9,W9,hr9,hn9,hg9,hv9⟩:=app_any (hG8.op 5 (by omega) (by omega)) hG8.bel.size Try.underlying36 infoPair rfl (by omega) (by omega) 36 a8 L.length c8 (icells (L.map (mvd n))) (by rw [icells_len,hl8]) hn8 (icells_one _) (by omega)
   refine wpOp_one (o:=ogH17) (by rfl) rfl ?_
   unfold ogH17
   refine appOp (Operand.tmp 54) (Operand.tmp 58) 36 rfl (by kernel_rfl) (by kernel_rfl) hr9 ?_
   refine wpAny_all (rs:=[10]) (by kernel_rfl) (by simp) ?_
   intro i hi
   simp only [List.mem_singleton] at hi
   subst hi
   refine wpOp_one (o:=ogH18) (by rfl) rfl ?_
   unfold ogH18
   unfold Oper.wp
   go_simp
   refine wpAny_all (rs:=[11]) (by kernel_rfl) (by simp) ?_
   intro i hi
   simp only [List.mem_singleton] at hi
   subst hi
   refine wpOp_one (o:=ogH19) (by rfl) rfl ?_
   unfold ogH19
   unfold Oper.wp
   go_simp
   refine wpAny_all (rs:=[12]) (by kernel_rfl) (by simp) ?_
   intro i hi
   simp only [List.mem_singleton] at hi
   subst hi
   have hbx:=(hg9.block gb hG8.lt (fun q=>hG8.ne_b.2.1 5 (by omega) (by omega) q.symm)).trans hG8.box
   have f1:W9.cell? ⟨gb,5,none⟩=some (gv 5):=by simp only [World.cell?,hbx]; rfl
   have f2:W9.frozen? ⟨gb,5,none⟩=false:=by simp only [World.frozen?,hbx]; rfl
   have hGe:=hG8.growP (k:=5) (by omega) (by omega) hg9 (L':=pi 5 ++ L.map (mvd n)) (by rw [List.length_append,hl8,icells_app]; exact hn9) hv9
   obtain ⟨a9,c9,rfl⟩:=own_len hn9
   refine wpOp_one (o:=ogH20) (by rfl) rfl ?_
   unfold ogH20
   unfold Oper.wp
   go_simp
   refine wpAny_done (by kernel_rfl) ?_ _
   refine hQ _ _ _ _ _ _ _ _ _ _ _ _ _ (W9.setCell ⟨gb,5,none⟩ _) hGe ?_ ?_
   ·exact ((hF.trans hF8).trans2 (Fr.of_grown hg9 (fun b q=>Or.inr q)) (fun _ _ q=>q)).trans2 (Fr.set W9 gb 5 _ (X:=fun b=>b=gb ∨ (gv 5).ownBlock=some b) (Or.inl rfl)) (fun _ _ q=>q)
   ·rcases hv9 with q | q
    ·exact .inl q
    ·exact .inr ⟨_,q,by have:=hW.size; have:=hb8.size; omega⟩
  ·refine wpOp_one (o:=ogH16) (by rfl) rfl ?_
   unfold ogH16
   unfold Oper.wp
   go_simp
   refine (moved_any _ L n W (hvr.next hW) hL).mono ?_
   rintro e8 W8 ⟨⟨v8,rfl,hv8⟩,hb8⟩
   dsimp only
   have hG8:=hGd.next hb8
   have hF8:Fr (fun b=>b=gb ∨ (gv 5).ownBlock=some b) W W8:=Fr.of_below hb8
   obtain ⟨a8,c8,e8⟩:=own_len hv8
   have hl8:(L.map (mvd n)).length=L.length:=by simp
   have hn8:L.length=0 ∨ ∃ ad,a8=some ad∧∀ j u,(icells (L.map (mvd n)))[j]?=some u→W8.cell? (ad.add j)=some u:=by
    rcases hv8.form with ⟨_,q⟩ | ⟨g,c',q,_,_,_,hc⟩
    ·exact .inl (by rw [← hl8,q]; rfl)
    ·have q0:=q
     rw [e8] at q0
     simp only [Value.slice.injEq] at q0
     refine .inr ⟨⟨g,0,none⟩,q0.1,fun j u hj=>?_⟩
     have hh:=World.ownsRow.cells hv8 (g:=g) (by rw [q]; rfl) j u hj
     exact hh
   rw [hl8] at e8
   subst e8
   refine wpAny_all (rs:=[4]) (by kernel_rfl) (by simp) ?_
   intro i hi
   simp only [List.mem_singleton] at hi
   subst hi
   obtain ⟨d1,d2⟩:=GS.ck hG8 5 (by omega) (by omega)
   refine wpOp_one (o:=ogH14) (by rfl) rfl ?_
   unfold ogH14
   unfold Oper.wp
   go_simp
   clear d1 d2
   refine wpAny_all (rs:=[9]) (by kernel_rfl) (by simp) ?_
   intro i hi
   simp only [List.mem_singleton] at hi
   subst hi
   obtain ⟨v9,W9,hr9,hn9,hg9,hv9⟩:=app_any (hG8.op 5 (by omega) (by omega)) hG8.bel.size Try.underlying36 infoPair rfl (by omega) (by omega) 36 a8 L.length c8 (icells (L.map (mvd n))) (by rw [icells_len,hl8]) hn8 (icells_one _) (by omega)
   refine wpOp_one (o:=ogH17) (by rfl) rfl ?_
   unfold ogH17
   refine appOp (Operand.tmp 54) (Operand.tmp 58) 36 rfl (by kernel_rfl) (by kernel_rfl) hr9 ?_
   refine wpAny_all (rs:=[10]) (by kernel_rfl) (by simp) ?_
   intro i hi
   simp only [List.mem_singleton] at hi
   subst hi
   refine wpOp_one (o:=ogH18) (by rfl) rfl ?_
   unfold ogH18
   unfold Oper.wp
   go_simp
   refine wpAny_all (rs:=[11]) (by kernel_rfl) (by simp) ?_
   intro i hi
   simp only [List.mem_singleton] at hi
   subst hi
   refine wpOp_one (o:=ogH19) (by rfl) rfl ?_
   unfold ogH19
   unfold Oper.wp
   go_simp
   refine wpAny_all (rs:=[12]) (by kernel_rfl) (by simp) ?_
   intro i hi
   simp only [List.mem_singleton] at hi
   subst hi
   have hbx:=(hg9.block gb hG8.lt (fun q=>hG8.ne_b.2.1 5 (by omega) (by omega) q.symm)).trans hG8.box
   have f1:W9.cell? ⟨gb,5,none⟩=some (gv 5):=by simp only [World.cell?,hbx]; rfl
   have f2:W9.frozen? ⟨gb,5,none⟩=false:=by simp only [World.frozen?,hbx]; rfl
   have hGe:=hG8.growP (k:=5) (by omega) (by omega) hg9 (L':=pi 5 ++ L.map (mvd n)) (by rw [List.length_append,hl8,icells_app]; exact hn9) hv9
   obtain ⟨a9,c9,rfl⟩:=own_len hn9
   refine wpOp_one (o:=ogH20) (by rfl) rfl ?_
   unfold ogH20
   unfold Oper.wp
   go_simp
   refine wpAny_done (by kernel_rfl) ?_ _
   refine hQ _ _ _ _ _ _ _ _ _ _ _ _ _ (W9.setCell ⟨gb,5,none⟩ _) hGe ?_ ?_
   ·exact ((hF.trans hF8).trans2 (Fr.of_grown hg9 (fun b q=>Or.inr q)) (fun _ _ q=>q)).trans2 (Fr.set W9 gb 5 _ (X:=fun b=>b=gb ∨ (gv 5).ownBlock=some b) (Or.inl rfl)) (fun _ _ q=>q)
   ·rcases hv9 with q | q
    ·exact .inl q
    ·exact .inr ⟨_,q,by have:=hW.size; have:=hb8.size; omega⟩
set_option maxRecDepth 20000 in
set_option maxHeartbeats 4000000 in
theorem layreg10_l (w0 w:World) (gb rb:Nat) (n locs:Int) (ve vr:Value) (E:List Ev) (L:List (Int × Int)) (gv:Nat→Value) (pi:Nat→List (Int × Int)) (hG:GS w0 w gb locs ve E gv pi) (hp:(pi 6).length≤1000) (hx:w.cell? ⟨rb,3,none⟩=some vr) (hvr:PV w vr L) (hL:L.length≤500)
  (z1 z2 z3 z5 z7 z8 z9 z10 z11 z12 z13 z14 z15 z16 z17 z18 z19 z20 z21 z22 z23 z24 z25 z26 z27 z28 z29 z30 z31 z32 z33 z34 z35 z36 z37 z38 z39 z40 z41 z42 z43 z44 z45 z46 z47 z48 z49 z50 z51 z52 z53 z54 z55 z56 z57 z58 z59 z60 z61 z62 z63 z64 z65 z66 z67 z68 z69 z70 z71 z72 z73 z74 z75 z76 z77 z78 z79 z80 z81 z82 z83 z84 z85:Value) (Q:Exit→Act→World→Prop)
  (hQp:∀ c (a:Act) (d:Tmp) v w,Q (.panic c) (a.put (some d) v) w→Q (.panic c) a w)
  (hQ:∀ (y62 y63 y64 y65 y66 y67 y68 y69 y70 y71 y72 y73 v1:Value) (W:World),GS w0 W gb locs ve E (updF gv 6 v1) (updF pi 6 (pi 6 ++ L.map (mvd n)))→Fr (fun b=>b=gb ∨ (gv 6).ownBlock=some b) w W→NewB w (gv 6) v1→Q .normal { tmps:=(.pointer (some ⟨gb,0,none⟩)::z1::z2::z3::.pointer (some ⟨rb,0,none⟩)::z5::.int .i64 n::z7::z8::z9::z10::z11::z12::z13::z14::z15::z16::z17::z18::z19::z20::z21::z22::z23::z24::z25::z26::z27::z28::z29::z30::z31::z32::z33::z34::z35::z36::z37::z38::z39::z40::z41::z42::z43::z44::z45::z46::z47::z48::z49::z50::z51::z52::z53::z54::z55::z56::z57::z58::z59::z60::z61::y62::y63::y64::y65::y66::y67::y68::y69::y70::y71::y72::y73::z74::z75::z76::z77::z78::z79::z80::z81::z82::z83::z84::z85::[]).toArray,defers:=[] } W) :
  Code.wp Try.prog (Code.region 10 rgH3 true) Q { tmps:=(.pointer (some ⟨gb,0,none⟩)::z1::z2::z3::.pointer (some ⟨rb,0,none⟩)::z5::.int .i64 n::z7::z8::z9::z10::z11::z12::z13::z14::z15::z16::z17::z18::z19::z20::z21::z22::z23::z24::z25::z26::z27::z28::z29::z30::z31::z32::z33::z34::z35::z36::z37::z38::z39::z40::z41::z42::z43::z44::z45::z46::z47::z48::z49::z50::z51::z52::z53::z54::z55::z56::z57::z58::z59::z60::z61::z62::z63::z64::z65::z66::z67::z68::z69::z70::z71::z72::z73::z74::z75::z76::z77::z78::z79::z80::z81::z82::z83::z84::z85::[]).toArray,defers:=[] } w:=by
 unfold rgH3
 refine wp_region_any (by kernel_rfl) ?_
 have hGd:=hG.drew
 have hF:Fr (fun b=>b=gb ∨ (gv 6).ownBlock=some b) w (World.drew w):=Fr.of_below (bel_drewN w 1)
 have hW:Below w.heap.size w (World.drew w):=bel_drewN w 1
 obtain ⟨pa,pc,rfl⟩:=own_len hvr
 clear hG
 change wpAny _ _ _ _ _ _ _ (World.drew _)
 generalize World.drew w=W at hGd hF hW ⊢
 refine wpAny_take (i:=0) (v:=.pointer (some ⟨gb,0,none⟩)) rfl (by kernel_rfl) (by kernel_rfl) (by kernel_rfl) (fun c a w=>hQp c a _ _ w) (Or.inl ⟨by rfl,?_⟩) ?_
 ·intro w
  go_simp
 refine wpAny_take (i:=1) (v:=.pointer (some ⟨gb,0,none⟩)) rfl (by kernel_rfl) (by kernel_rfl) (by kernel_rfl) (fun c a w=>hQp c a _ _ w) (Or.inl ⟨by rfl,?_⟩) ?_
 ·intro w
  go_simp
 refine wpAny_take (i:=2) (v:=.pointer (some ⟨gb,0,none⟩)) rfl (by kernel_rfl) (by kernel_rfl) (by kernel_rfl) (fun c a w=>hQp c a _ _ w) (Or.inl ⟨by rfl,?_⟩) ?_
 ·intro w
  go_simp
 refine wpAny_take (i:=3) (v:=.pointer (some ⟨gb,6,none⟩)) rfl (by kernel_rfl) (by kernel_rfl) (by kernel_rfl) (fun c a w=>hQp c a _ _ w) (Or.inl ⟨by rfl,?_⟩) ?_
 ·intro w
  go_simp
 refine wpAny_take (i:=5) (v:=.pointer (some ⟨rb,3,none⟩)) rfl (by kernel_rfl) (by kernel_rfl) (by kernel_rfl) (fun c a w=>hQp c a _ _ w) (Or.inl ⟨by rfl,?_⟩) ?_
 ·intro w
  go_simp
 refine wpAny_take (i:=7) (v:=.int .i64 n) rfl (by kernel_rfl) (by kernel_rfl) (by kernel_rfl) (fun c a w=>hQp c a _ _ w) (Or.inl ⟨by rfl,?_⟩) ?_
 ·intro w
  go_simp
 show wpAny _ _ _ _ 7 _ _ _
 refine wpAny_all (rs:=[4,6]) (by kernel_rfl) (by simp) ?_
 intro i hi
 simp only [List.mem_cons,List.not_mem_nil,or_false] at hi
 rcases hi with rfl | rfl
 ·obtain ⟨d1,d2⟩:=GS.ck hGd 6 (by omega) (by omega)
  refine wpOp_one (o:=ogH21) (by rfl) rfl ?_
  unfold ogH21
  unfold Oper.wp
  go_simp
  clear d1 d2
  refine wpAny_all (rs:=[6]) (by kernel_rfl) (by simp) ?_
  intro i hi
  simp only [List.mem_singleton] at hi
  subst hi
  have y:=cell_next hx hW
  refine wpOp_one (o:=ogH22) (by rfl) rfl ?_
  unfold ogH22
  unfold Oper.wp
  go_simp
  clear y
  refine wpAny_all (rs:=[8]) (by kernel_rfl) (by simp) ?_
  intro i hi
  simp only [List.mem_singleton] at hi
  subst hi
  refine wpOp_one (o:=ogH23) (by rfl) rfl ?_
  unfold ogH23
  unfold Oper.wp
  go_simp
  refine (moved_any _ L n W (hvr.next hW) hL).mono ?_
  rintro e8 W8 ⟨⟨v8,rfl,hv8⟩,hb8⟩
  dsimp only
  have hG8:=hGd.next hb8
  have hF8:Fr (fun b=>b=gb ∨ (gv 6).ownBlock=some b) W W8:=Fr.of_below hb8
  obtain ⟨a8,c8,e8⟩:=own_len hv8
  have hl8:(L.map (mvd n)).length=L.length:=by simp
  have hn8:L.length=0 ∨ ∃ ad,a8=some ad∧∀ j u,(icells (L.map (mvd n)))[j]?=some u→W8.cell? (ad.add j)=some u:=by
   rcases hv8.form with ⟨_,q⟩ | ⟨g,c',q,_,_,_,hc⟩
   ·exact .inl (by rw [← hl8,q]; rfl)
   ·have q0:=q
    rw [e8] at q0
    simp only [Value.slice.injEq] at q0
    refine .inr ⟨⟨g,0,none⟩,q0.1,fun j u hj=>?_⟩
    have hh:=World.ownsRow.cells hv8 (g:=g) (by rw [q]; rfl) j u hj
    exact hh
  rw [hl8] at e8
  subst e8
  refine wpAny_all (rs:=[9]) (by kernel_rfl) (by simp) ?_
  intro i hi
  simp only [List.mem_singleton] at hi
  subst hi
  obtain ⟨v9,W9,hr9,hn9,hg9,hv9⟩:=app_any (hG8.op 6 (by omega) (by omega)) hG8.bel.size Try.underlying36 infoPair rfl (by omega) (by omega) 36 a8 L.length c8 (icells (L.map (mvd n))) (by rw [icells_len,hl8]) hn8 (icells_one _) (by omega)
  refine wpOp_one (o:=ogH24) (by rfl) rfl ?_
  unfold ogH24
  refine appOp (Operand.tmp 66) (Operand.tmp 70) 36 rfl (by kernel_rfl) (by kernel_rfl) hr9 ?_
  refine wpAny_all (rs:=[10]) (by kernel_rfl) (by simp) ?_
  intro i hi
  simp only [List.mem_singleton] at hi
  subst hi
  refine wpOp_one (o:=ogH25) (by rfl) rfl ?_
  unfold ogH25
  unfold Oper.wp
  go_simp
  refine wpAny_all (rs:=[11]) (by kernel_rfl) (by simp) ?_
  intro i hi
  simp only [List.mem_singleton] at hi
  subst hi
  refine wpOp_one (o:=ogH26) (by rfl) rfl ?_
  unfold ogH26
  unfold Oper.wp
  go_simp
  refine wpAny_all (rs:=[12]) (by kernel_rfl) (by simp) ?_
  intro i hi
  simp only [List.mem_singleton] at hi
  subst hi
  have hbx:=(hg9.block gb hG8.lt (fun q=>hG8.ne_b.2.1 6 (by omega) (by omega) q.symm)).trans hG8.box
  have f1:W9.cell? ⟨gb,6,none⟩=some (gv 6):=by simp only [World.cell?,hbx]; rfl
  have f2:W9.frozen? ⟨gb,6,none⟩=false:=by simp only [World.frozen?,hbx]; rfl
  have hGe:=hG8.growP (k:=6) (by omega) (by omega) hg9 (L':=pi 6 ++ L.map (mvd n)) (by rw [List.length_append,hl8,icells_app]; exact hn9) hv9
  obtain ⟨a9,c9,rfl⟩:=own_len hn9
  refine wpOp_one (o:=ogH27) (by rfl) rfl ?_
  unfold ogH27
  unfold Oper.wp
  go_simp
  refine wpAny_done (by kernel_rfl) ?_ _
  refine hQ _ _ _ _ _ _ _ _ _ _ _ _ _ (W9.setCell ⟨gb,6,none⟩ _) hGe ?_ ?_
  ·exact ((hF.trans hF8).trans2 (Fr.of_grown hg9 (fun b q=>Or.inr q)) (fun _ _ q=>q)).trans2 (Fr.set W9 gb 6 _ (X:=fun b=>b=gb ∨ (gv 6).ownBlock=some b) (Or.inl rfl)) (fun _ _ q=>q)
  ·rcases hv9 with q | q
   ·exact .inl q
   ·exact .inr ⟨_,q,by have:=hW.size; have:=hb8.size; omega⟩
 ·have y:=cell_next hx hW
  refine wpOp_one (o:=ogH22) (by rfl) rfl ?_
  unfold ogH22
  unfold Oper.wp
  go_simp
  clear y
  refine wpAny_all (rs:=[4,8]) (by kernel_rfl) (by simp) ?_
  intro i hi
  simp only [List.mem_cons,List.not_mem_nil,or_false] at hi
  rcases hi with rfl | rfl
  ·obtain ⟨d1,d2⟩:=GS.ck hGd 6 (by omega) (by omega)
   refine wpOp_one (o:=ogH21) (by rfl) rfl ?_
   unfold ogH21
   unfold Oper.wp
   go_simp
   clear d1 d2
   refine wpAny_all (rs:=[8]) (by kernel_rfl) (by simp) ?_
   intro i hi
   simp only [List.mem_singleton] at hi
   subst hi
   refine wpOp_one (o:=ogH23) (by rfl) rfl ?_
   unfold ogH23
   unfold Oper.wp
   go_simp
   refine (moved_any _ L n W (hvr.next hW) hL).mono ?_
   rintro e8 W8 ⟨⟨v8,rfl,hv8⟩,hb8⟩
   dsimp only
   have hG8:=hGd.next hb8
   have hF8:Fr (fun b=>b=gb ∨ (gv 6).ownBlock=some b) W W8:=Fr.of_below hb8
   obtain ⟨a8,c8,e8⟩:=own_len hv8
   have hl8:(L.map (mvd n)).length=L.length:=by simp
   have hn8:L.length=0 ∨ ∃ ad,a8=some ad∧∀ j u,(icells (L.map (mvd n)))[j]?=some u→W8.cell? (ad.add j)=some u:=by
    rcases hv8.form with ⟨_,q⟩ | ⟨g,c',q,_,_,_,hc⟩
    ·exact .inl (by rw [← hl8,q]; rfl)
    ·have q0:=q
     rw [e8] at q0
     simp only [Value.slice.injEq] at q0
     refine .inr ⟨⟨g,0,none⟩,q0.1,fun j u hj=>?_⟩
     have hh:=World.ownsRow.cells hv8 (g:=g) (by rw [q]; rfl) j u hj
     exact hh
   rw [hl8] at e8
   subst e8
   refine wpAny_all (rs:=[9]) (by kernel_rfl) (by simp) ?_
   intro i hi
   simp only [List.mem_singleton] at hi
   subst hi
   obtain ⟨v9,W9,hr9,hn9,hg9,hv9⟩:=app_any (hG8.op 6 (by omega) (by omega)) hG8.bel.size Try.underlying36 infoPair rfl (by omega) (by omega) 36 a8 L.length c8 (icells (L.map (mvd n))) (by rw [icells_len,hl8]) hn8 (icells_one _) (by omega)
   refine wpOp_one (o:=ogH24) (by rfl) rfl ?_
   unfold ogH24
   refine appOp (Operand.tmp 66) (Operand.tmp 70) 36 rfl (by kernel_rfl) (by kernel_rfl) hr9 ?_
   refine wpAny_all (rs:=[10]) (by kernel_rfl) (by simp) ?_
   intro i hi
   simp only [List.mem_singleton] at hi
   subst hi
   refine wpOp_one (o:=ogH25) (by rfl) rfl ?_
   unfold ogH25
   unfold Oper.wp
   go_simp
   refine wpAny_all (rs:=[11]) (by kernel_rfl) (by simp) ?_
   intro i hi
   simp only [List.mem_singleton] at hi
   subst hi
   refine wpOp_one (o:=ogH26) (by rfl) rfl ?_
   unfold ogH26
   unfold Oper.wp
   go_simp
   refine wpAny_all (rs:=[12]) (by kernel_rfl) (by simp) ?_
   intro i hi
   simp only [List.mem_singleton] at hi
   subst hi
   have hbx:=(hg9.block gb hG8.lt (fun q=>hG8.ne_b.2.1 6 (by omega) (by omega) q.symm)).trans hG8.box
   have f1:W9.cell? ⟨gb,6,none⟩=some (gv 6):=by simp only [World.cell?,hbx]; rfl
   have f2:W9.frozen? ⟨gb,6,none⟩=false:=by simp only [World.frozen?,hbx]; rfl
   have hGe:=hG8.growP (k:=6) (by omega) (by omega) hg9 (L':=pi 6 ++ L.map (mvd n)) (by rw [List.length_append,hl8,icells_app]; exact hn9) hv9
   obtain ⟨a9,c9,rfl⟩:=own_len hn9
   refine wpOp_one (o:=ogH27) (by rfl) rfl ?_
   unfold ogH27
   unfold Oper.wp
   go_simp
   refine wpAny_done (by kernel_rfl) ?_ _
   refine hQ _ _ _ _ _ _ _ _ _ _ _ _ _ (W9.setCell ⟨gb,6,none⟩ _) hGe ?_ ?_
   ·exact ((hF.trans hF8).trans2 (Fr.of_grown hg9 (fun b q=>Or.inr q)) (fun _ _ q=>q)).trans2 (Fr.set W9 gb 6 _ (X:=fun b=>b=gb ∨ (gv 6).ownBlock=some b) (Or.inl rfl)) (fun _ _ q=>q)
   ·rcases hv9 with q | q
    ·exact .inl q
    ·exact .inr ⟨_,q,by have:=hW.size; have:=hb8.size; omega⟩
  ·refine wpOp_one (o:=ogH23) (by rfl) rfl ?_
   unfold ogH23
   unfold Oper.wp
   go_simp
   refine (moved_any _ L n W (hvr.next hW) hL).mono ?_
   rintro e8 W8 ⟨⟨v8,rfl,hv8⟩,hb8⟩
   dsimp only
   have hG8:=hGd.next hb8
   have hF8:Fr (fun b=>b=gb ∨ (gv 6).ownBlock=some b) W W8:=Fr.of_below hb8
   obtain ⟨a8,c8,e8⟩:=own_len hv8
   have hl8:(L.map (mvd n)).length=L.length:=by simp
   have hn8:L.length=0 ∨ ∃ ad,a8=some ad∧∀ j u,(icells (L.map (mvd n)))[j]?=some u→W8.cell? (ad.add j)=some u:=by
    rcases hv8.form with ⟨_,q⟩ | ⟨g,c',q,_,_,_,hc⟩
    ·exact .inl (by rw [← hl8,q]; rfl)
    ·have q0:=q
     rw [e8] at q0
     simp only [Value.slice.injEq] at q0
     refine .inr ⟨⟨g,0,none⟩,q0.1,fun j u hj=>?_⟩
     have hh:=World.ownsRow.cells hv8 (g:=g) (by rw [q]; rfl) j u hj
     exact hh
   rw [hl8] at e8
   subst e8
   refine wpAny_all (rs:=[4]) (by kernel_rfl) (by simp) ?_
   intro i hi
   simp only [List.mem_singleton] at hi
   subst hi
   obtain ⟨d1,d2⟩:=GS.ck hG8 6 (by omega) (by omega)
   refine wpOp_one (o:=ogH21) (by rfl) rfl ?_
   unfold ogH21
   unfold Oper.wp
   go_simp
   clear d1 d2
   refine wpAny_all (rs:=[9]) (by kernel_rfl) (by simp) ?_
   intro i hi
   simp only [List.mem_singleton] at hi
   subst hi
   obtain ⟨v9,W9,hr9,hn9,hg9,hv9⟩:=app_any (hG8.op 6 (by omega) (by omega)) hG8.bel.size Try.underlying36 infoPair rfl (by omega) (by omega) 36 a8 L.length c8 (icells (L.map (mvd n))) (by rw [icells_len,hl8]) hn8 (icells_one _) (by omega)
   refine wpOp_one (o:=ogH24) (by rfl) rfl ?_
   unfold ogH24
   refine appOp (Operand.tmp 66) (Operand.tmp 70) 36 rfl (by kernel_rfl) (by kernel_rfl) hr9 ?_
   refine wpAny_all (rs:=[10]) (by kernel_rfl) (by simp) ?_
   intro i hi
   simp only [List.mem_singleton] at hi
   subst hi
   refine wpOp_one (o:=ogH25) (by rfl) rfl ?_
   unfold ogH25
   unfold Oper.wp
   go_simp
   refine wpAny_all (rs:=[11]) (by kernel_rfl) (by simp) ?_
   intro i hi
   simp only [List.mem_singleton] at hi
   subst hi
   refine wpOp_one (o:=ogH26) (by rfl) rfl ?_
   unfold ogH26
   unfold Oper.wp
   go_simp
   refine wpAny_all (rs:=[12]) (by kernel_rfl) (by simp) ?_
   intro i hi
   simp only [List.mem_singleton] at hi
   subst hi
   have hbx:=(hg9.block gb hG8.lt (fun q=>hG8.ne_b.2.1 6 (by omega) (by omega) q.symm)).trans hG8.box
   have f1:W9.cell? ⟨gb,6,none⟩=some (gv 6):=by simp only [World.cell?,hbx]; rfl
   have f2:W9.frozen? ⟨gb,6,none⟩=false:=by simp only [World.frozen?,hbx]; rfl
   have hGe:=hG8.growP (k:=6) (by omega) (by omega) hg9 (L':=pi 6 ++ L.map (mvd n)) (by rw [List.length_append,hl8,icells_app]; exact hn9) hv9
   obtain ⟨a9,c9,rfl⟩:=own_len hn9
   refine wpOp_one (o:=ogH27) (by rfl) rfl ?_
   unfold ogH27
   unfold Oper.wp
   go_simp
   refine wpAny_done (by kernel_rfl) ?_ _
   refine hQ _ _ _ _ _ _ _ _ _ _ _ _ _ (W9.setCell ⟨gb,6,none⟩ _) hGe ?_ ?_
   ·exact ((hF.trans hF8).trans2 (Fr.of_grown hg9 (fun b q=>Or.inr q)) (fun _ _ q=>q)).trans2 (Fr.set W9 gb 6 _ (X:=fun b=>b=gb ∨ (gv 6).ownBlock=some b) (Or.inl rfl)) (fun _ _ q=>q)
   ·rcases hv9 with q | q
    ·exact .inl q
    ·exact .inr ⟨_,q,by have:=hW.size; have:=hb8.size; omega⟩
set_option maxRecDepth 20000 in
set_option maxHeartbeats 4000000 in
theorem layreg11_l (w0 w:World) (gb rb:Nat) (n locs:Int) (ve vr:Value) (E:List Ev) (L:List (Int × Int)) (gv:Nat→Value) (pi:Nat→List (Int × Int)) (hG:GS w0 w gb locs ve E gv pi) (hp:(pi 7).length≤1000) (hx:w.cell? ⟨rb,4,none⟩=some vr) (hvr:PV w vr L) (hL:L.length≤500)
  (z1 z2 z3 z5 z7 z8 z9 z10 z11 z12 z13 z14 z15 z16 z17 z18 z19 z20 z21 z22 z23 z24 z25 z26 z27 z28 z29 z30 z31 z32 z33 z34 z35 z36 z37 z38 z39 z40 z41 z42 z43 z44 z45 z46 z47 z48 z49 z50 z51 z52 z53 z54 z55 z56 z57 z58 z59 z60 z61 z62 z63 z64 z65 z66 z67 z68 z69 z70 z71 z72 z73 z74 z75 z76 z77 z78 z79 z80 z81 z82 z83 z84 z85:Value) (Q:Exit→Act→World→Prop)
  (hQp:∀ c (a:Act) (d:Tmp) v w,Q (.panic c) (a.put (some d) v) w→Q (.panic c) a w)
  (hQ:∀ (y74 y75 y76 y77 y78 y79 y80 y81 y82 y83 y84 y85 v1:Value) (W:World),GS w0 W gb locs ve E (updF gv 7 v1) (updF pi 7 (pi 7 ++ L.map (mvd n)))→Fr (fun b=>b=gb ∨ (gv 7).ownBlock=some b) w W→NewB w (gv 7) v1→Q .normal { tmps:=(.pointer (some ⟨gb,0,none⟩)::z1::z2::z3::.pointer (some ⟨rb,0,none⟩)::z5::.int .i64 n::z7::z8::z9::z10::z11::z12::z13::z14::z15::z16::z17::z18::z19::z20::z21::z22::z23::z24::z25::z26::z27::z28::z29::z30::z31::z32::z33::z34::z35::z36::z37::z38::z39::z40::z41::z42::z43::z44::z45::z46::z47::z48::z49::z50::z51::z52::z53::z54::z55::z56::z57::z58::z59::z60::z61::z62::z63::z64::z65::z66::z67::z68::z69::z70::z71::z72::z73::y74::y75::y76::y77::y78::y79::y80::y81::y82::y83::y84::y85::[]).toArray,defers:=[] } W) :
  Code.wp Try.prog (Code.region 11 rgH4 true) Q { tmps:=(.pointer (some ⟨gb,0,none⟩)::z1::z2::z3::.pointer (some ⟨rb,0,none⟩)::z5::.int .i64 n::z7::z8::z9::z10::z11::z12::z13::z14::z15::z16::z17::z18::z19::z20::z21::z22::z23::z24::z25::z26::z27::z28::z29::z30::z31::z32::z33::z34::z35::z36::z37::z38::z39::z40::z41::z42::z43::z44::z45::z46::z47::z48::z49::z50::z51::z52::z53::z54::z55::z56::z57::z58::z59::z60::z61::z62::z63::z64::z65::z66::z67::z68::z69::z70::z71::z72::z73::z74::z75::z76::z77::z78::z79::z80::z81::z82::z83::z84::z85::[]).toArray,defers:=[] } w:=by
 unfold rgH4
 refine wp_region_any (by kernel_rfl) ?_
 have hGd:=hG.drew
 have hF:Fr (fun b=>b=gb ∨ (gv 7).ownBlock=some b) w (World.drew w):=Fr.of_below (bel_drewN w 1)
 have hW:Below w.heap.size w (World.drew w):=bel_drewN w 1
 obtain ⟨pa,pc,rfl⟩:=own_len hvr
 clear hG
 change wpAny _ _ _ _ _ _ _ (World.drew _)
 generalize World.drew w=W at hGd hF hW ⊢
 refine wpAny_take (i:=0) (v:=.pointer (some ⟨gb,0,none⟩)) rfl (by kernel_rfl) (by kernel_rfl) (by kernel_rfl) (fun c a w=>hQp c a _ _ w) (Or.inl ⟨by rfl,?_⟩) ?_
 ·intro w
  go_simp
 refine wpAny_take (i:=1) (v:=.pointer (some ⟨gb,0,none⟩)) rfl (by kernel_rfl) (by kernel_rfl) (by kernel_rfl) (fun c a w=>hQp c a _ _ w) (Or.inl ⟨by rfl,?_⟩) ?_
 ·intro w
  go_simp
 refine wpAny_take (i:=2) (v:=.pointer (some ⟨gb,0,none⟩)) rfl (by kernel_rfl) (by kernel_rfl) (by kernel_rfl) (fun c a w=>hQp c a _ _ w) (Or.inl ⟨by rfl,?_⟩) ?_
 ·intro w
  go_simp
 refine wpAny_take (i:=3) (v:=.pointer (some ⟨gb,7,none⟩)) rfl (by kernel_rfl) (by kernel_rfl) (by kernel_rfl) (fun c a w=>hQp c a _ _ w) (Or.inl ⟨by rfl,?_⟩) ?_
 ·intro w
  go_simp
 refine wpAny_take (i:=5) (v:=.pointer (some ⟨rb,4,none⟩)) rfl (by kernel_rfl) (by kernel_rfl) (by kernel_rfl) (fun c a w=>hQp c a _ _ w) (Or.inl ⟨by rfl,?_⟩) ?_
 ·intro w
  go_simp
 refine wpAny_take (i:=7) (v:=.int .i64 n) rfl (by kernel_rfl) (by kernel_rfl) (by kernel_rfl) (fun c a w=>hQp c a _ _ w) (Or.inl ⟨by rfl,?_⟩) ?_
 ·intro w
  go_simp
 show wpAny _ _ _ _ 7 _ _ _
 refine wpAny_all (rs:=[4,6]) (by kernel_rfl) (by simp) ?_
 intro i hi
 simp only [List.mem_cons,List.not_mem_nil,or_false] at hi
 rcases hi with rfl | rfl
 ·obtain ⟨d1,d2⟩:=GS.ck hGd 7 (by omega) (by omega)
  refine wpOp_one (o:=ogH28) (by rfl) rfl ?_
  unfold ogH28
  unfold Oper.wp
  go_simp
  clear d1 d2
  refine wpAny_all (rs:=[6]) (by kernel_rfl) (by simp) ?_
  intro i hi
  simp only [List.mem_singleton] at hi
  subst hi
  have y:=cell_next hx hW
  refine wpOp_one (o:=ogH29) (by rfl) rfl ?_
  unfold ogH29
  unfold Oper.wp
  go_simp
  clear y
  refine wpAny_all (rs:=[8]) (by kernel_rfl) (by simp) ?_
  intro i hi
  simp only [List.mem_singleton] at hi
  subst hi
  refine wpOp_one (o:=ogH30) (by rfl) rfl ?_
  unfold ogH30
  unfold Oper.wp
  go_simp
  refine (moved_any _ L n W (hvr.next hW) hL).mono ?_
  rintro e8 W8 ⟨⟨v8,rfl,hv8⟩,hb8⟩
  dsimp only
  have hG8:=hGd.next hb8
  have hF8:Fr (fun b=>b=gb ∨ (gv 7).ownBlock=some b) W W8:=Fr.of_below hb8
  obtain ⟨a8,c8,e8⟩:=own_len hv8
  have hl8:(L.map (mvd n)).length=L.length:=by simp
  have hn8:L.length=0 ∨ ∃ ad,a8=some ad∧∀ j u,(icells (L.map (mvd n)))[j]?=some u→W8.cell? (ad.add j)=some u:=by
   rcases hv8.form with ⟨_,q⟩ | ⟨g,c',q,_,_,_,hc⟩
   ·exact .inl (by rw [← hl8,q]; rfl)
   ·have q0:=q
    rw [e8] at q0
    simp only [Value.slice.injEq] at q0
    refine .inr ⟨⟨g,0,none⟩,q0.1,fun j u hj=>?_⟩
    have hh:=World.ownsRow.cells hv8 (g:=g) (by rw [q]; rfl) j u hj
    exact hh
  rw [hl8] at e8
  subst e8
  refine wpAny_all (rs:=[9]) (by kernel_rfl) (by simp) ?_
  intro i hi
  simp only [List.mem_singleton] at hi
  subst hi
  obtain ⟨v9,W9,hr9,hn9,hg9,hv9⟩:=app_any (hG8.op 7 (by omega) (by omega)) hG8.bel.size Try.underlying36 infoPair rfl (by omega) (by omega) 36 a8 L.length c8 (icells (L.map (mvd n))) (by rw [icells_len,hl8]) hn8 (icells_one _) (by omega)
  refine wpOp_one (o:=ogH31) (by rfl) rfl ?_
  unfold ogH31
  refine appOp (Operand.tmp 78) (Operand.tmp 82) 36 rfl (by kernel_rfl) (by kernel_rfl) hr9 ?_
  refine wpAny_all (rs:=[10]) (by kernel_rfl) (by simp) ?_
  intro i hi
  simp only [List.mem_singleton] at hi
  subst hi
  refine wpOp_one (o:=ogH32) (by rfl) rfl ?_
  unfold ogH32
  unfold Oper.wp
  go_simp
  refine wpAny_all (rs:=[11]) (by kernel_rfl) (by simp) ?_
  intro i hi
  simp only [List.mem_singleton] at hi
  subst hi
  refine wpOp_one (o:=ogH33) (by rfl) rfl ?_
  unfold ogH33
  unfold Oper.wp
  go_simp
  refine wpAny_all (rs:=[12]) (by kernel_rfl) (by simp) ?_
  intro i hi
  simp only [List.mem_singleton] at hi
  subst hi
  have hbx:=(hg9.block gb hG8.lt (fun q=>hG8.ne_b.2.1 7 (by omega) (by omega) q.symm)).trans hG8.box
  have f1:W9.cell? ⟨gb,7,none⟩=some (gv 7):=by simp only [World.cell?,hbx]; rfl
  have f2:W9.frozen? ⟨gb,7,none⟩=false:=by simp only [World.frozen?,hbx]; rfl
  have hGe:=hG8.growP (k:=7) (by omega) (by omega) hg9 (L':=pi 7 ++ L.map (mvd n)) (by rw [List.length_append,hl8,icells_app]; exact hn9) hv9
  obtain ⟨a9,c9,rfl⟩:=own_len hn9
  refine wpOp_one (o:=ogH34) (by rfl) rfl ?_
  unfold ogH34
  unfold Oper.wp
  go_simp
  refine wpAny_done (by kernel_rfl) ?_ _
  refine hQ _ _ _ _ _ _ _ _ _ _ _ _ _ (W9.setCell ⟨gb,7,none⟩ _) hGe ?_ ?_
  ·exact ((hF.trans hF8).trans2 (Fr.of_grown hg9 (fun b q=>Or.inr q)) (fun _ _ q=>q)).trans2 (Fr.set W9 gb 7 _ (X:=fun b=>b=gb ∨ (gv 7).ownBlock=some b) (Or.inl rfl)) (fun _ _ q=>q)
  ·rcases hv9 with q | q
   ·exact .inl q
   ·exact .inr ⟨_,q,by have:=hW.size; have:=hb8.size; omega⟩
 ·have y:=cell_next hx hW
  refine wpOp_one (o:=ogH29) (by rfl) rfl ?_
  unfold ogH29
  unfold Oper.wp
  go_simp
  clear y
  refine wpAny_all (rs:=[4,8]) (by kernel_rfl) (by simp) ?_
  intro i hi
  simp only [List.mem_cons,List.not_mem_nil,or_false] at hi
  rcases hi with rfl | rfl
  ·obtain ⟨d1,d2⟩:=GS.ck hGd 7 (by omega) (by omega)
   refine wpOp_one (o:=ogH28) (by rfl) rfl ?_
   unfold ogH28
   unfold Oper.wp
   go_simp
   clear d1 d2
   refine wpAny_all (rs:=[8]) (by kernel_rfl) (by simp) ?_
   intro i hi
   simp only [List.mem_singleton] at hi
   subst hi
   refine wpOp_one (o:=ogH30) (by rfl) rfl ?_
   unfold ogH30
   unfold Oper.wp
   go_simp
   refine (moved_any _ L n W (hvr.next hW) hL).mono ?_
   rintro e8 W8 ⟨⟨v8,rfl,hv8⟩,hb8⟩
   dsimp only
   have hG8:=hGd.next hb8
   have hF8:Fr (fun b=>b=gb ∨ (gv 7).ownBlock=some b) W W8:=Fr.of_below hb8
   obtain ⟨a8,c8,e8⟩:=own_len hv8
   have hl8:(L.map (mvd n)).length=L.length:=by simp
   have hn8:L.length=0 ∨ ∃ ad,a8=some ad∧∀ j u,(icells (L.map (mvd n)))[j]?=some u→W8.cell? (ad.add j)=some u:=by
    rcases hv8.form with ⟨_,q⟩ | ⟨g,c',q,_,_,_,hc⟩
    ·exact .inl (by rw [← hl8,q]; rfl)
    ·have q0:=q
     rw [e8] at q0
     simp only [Value.slice.injEq] at q0
     refine .inr ⟨⟨g,0,none⟩,q0.1,fun j u hj=>?_⟩
     have hh:=World.ownsRow.cells hv8 (g:=g) (by rw [q]; rfl) j u hj
     exact hh
   rw [hl8] at e8
   subst e8
   refine wpAny_all (rs:=[9]) (by kernel_rfl) (by simp) ?_
   intro i hi
   simp only [List.mem_singleton] at hi
   subst hi
   obtain ⟨v9,W9,hr9,hn9,hg9,hv9⟩:=app_any (hG8.op 7 (by omega) (by omega)) hG8.bel.size Try.underlying36 infoPair rfl (by omega) (by omega) 36 a8 L.length c8 (icells (L.map (mvd n))) (by rw [icells_len,hl8]) hn8 (icells_one _) (by omega)
   refine wpOp_one (o:=ogH31) (by rfl) rfl ?_
   unfold ogH31
   refine appOp (Operand.tmp 78) (Operand.tmp 82) 36 rfl (by kernel_rfl) (by kernel_rfl) hr9 ?_
   refine wpAny_all (rs:=[10]) (by kernel_rfl) (by simp) ?_
   intro i hi
   simp only [List.mem_singleton] at hi
   subst hi
   refine wpOp_one (o:=ogH32) (by rfl) rfl ?_
   unfold ogH32
   unfold Oper.wp
   go_simp
   refine wpAny_all (rs:=[11]) (by kernel_rfl) (by simp) ?_
   intro i hi
   simp only [List.mem_singleton] at hi
   subst hi
   refine wpOp_one (o:=ogH33) (by rfl) rfl ?_
   unfold ogH33
   unfold Oper.wp
   go_simp
   refine wpAny_all (rs:=[12]) (by kernel_rfl) (by simp) ?_
   intro i hi
   simp only [List.mem_singleton] at hi
   subst hi
   have hbx:=(hg9.block gb hG8.lt (fun q=>hG8.ne_b.2.1 7 (by omega) (by omega) q.symm)).trans hG8.box
   have f1:W9.cell? ⟨gb,7,none⟩=some (gv 7):=by simp only [World.cell?,hbx]; rfl
   have f2:W9.frozen? ⟨gb,7,none⟩=false:=by simp only [World.frozen?,hbx]; rfl
   have hGe:=hG8.growP (k:=7) (by omega) (by omega) hg9 (L':=pi 7 ++ L.map (mvd n)) (by rw [List.length_append,hl8,icells_app]; exact hn9) hv9
   obtain ⟨a9,c9,rfl⟩:=own_len hn9
   refine wpOp_one (o:=ogH34) (by rfl) rfl ?_
   unfold ogH34
   unfold Oper.wp
   go_simp
   refine wpAny_done (by kernel_rfl) ?_ _
   refine hQ _ _ _ _ _ _ _ _ _ _ _ _ _ (W9.setCell ⟨gb,7,none⟩ _) hGe ?_ ?_
   ·exact ((hF.trans hF8).trans2 (Fr.of_grown hg9 (fun b q=>Or.inr q)) (fun _ _ q=>q)).trans2 (Fr.set W9 gb 7 _ (X:=fun b=>b=gb ∨ (gv 7).ownBlock=some b) (Or.inl rfl)) (fun _ _ q=>q)
   ·rcases hv9 with q | q
    ·exact .inl q
    ·exact .inr ⟨_,q,by have:=hW.size; have:=hb8.size; omega⟩
  ·refine wpOp_one (o:=ogH30) (by rfl) rfl ?_
   unfold ogH30
   unfold Oper.wp
   go_simp
   refine (moved_any _ L n W (hvr.next hW) hL).mono ?_
   rintro e8 W8 ⟨⟨v8,rfl,hv8⟩,hb8⟩
   dsimp only
   have hG8:=hGd.next hb8
   have hF8:Fr (fun b=>b=gb ∨ (gv 7).ownBlock=some b) W W8:=Fr.of_below hb8
   obtain ⟨a8,c8,e8⟩:=own_len hv8
   have hl8:(L.map (mvd n)).length=L.length:=by simp
   have hn8:L.length=0 ∨ ∃ ad,a8=some ad∧∀ j u,(icells (L.map (mvd n)))[j]?=some u→W8.cell? (ad.add j)=some u:=by
    rcases hv8.form with ⟨_,q⟩ | ⟨g,c',q,_,_,_,hc⟩
    ·exact .inl (by rw [← hl8,q]; rfl)
    ·have q0:=q
     rw [e8] at q0
     simp only [Value.slice.injEq] at q0
     refine .inr ⟨⟨g,0,none⟩,q0.1,fun j u hj=>?_⟩
     have hh:=World.ownsRow.cells hv8 (g:=g) (by rw [q]; rfl) j u hj
     exact hh
   rw [hl8] at e8
   subst e8
   refine wpAny_all (rs:=[4]) (by kernel_rfl) (by simp) ?_
   intro i hi
   simp only [List.mem_singleton] at hi
   subst hi
   obtain ⟨d1,d2⟩:=GS.ck hG8 7 (by omega) (by omega)
   refine wpOp_one (o:=ogH28) (by rfl) rfl ?_
   unfold ogH28
   unfold Oper.wp
   go_simp
   clear d1 d2
   refine wpAny_all (rs:=[9]) (by kernel_rfl) (by simp) ?_
   intro i hi
   simp only [List.mem_singleton] at hi
   subst hi
   obtain ⟨v9,W9,hr9,hn9,hg9,hv9⟩:=app_any (hG8.op 7 (by omega) (by omega)) hG8.bel.size Try.underlying36 infoPair rfl (by omega) (by omega) 36 a8 L.length c8 (icells (L.map (mvd n))) (by rw [icells_len,hl8]) hn8 (icells_one _) (by omega)
   refine wpOp_one (o:=ogH31) (by rfl) rfl ?_
   unfold ogH31
   refine appOp (Operand.tmp 78) (Operand.tmp 82) 36 rfl (by kernel_rfl) (by kernel_rfl) hr9 ?_
   refine wpAny_all (rs:=[10]) (by kernel_rfl) (by simp) ?_
   intro i hi
   simp only [List.mem_singleton] at hi
   subst hi
   refine wpOp_one (o:=ogH32) (by rfl) rfl ?_
   unfold ogH32
   unfold Oper.wp
   go_simp
   refine wpAny_all (rs:=[11]) (by kernel_rfl) (by simp) ?_
   intro i hi
   simp only [List.mem_singleton] at hi
   subst hi
   refine wpOp_one (o:=ogH33) (by rfl) rfl ?_
   unfold ogH33
   unfold Oper.wp
   go_simp
   refine wpAny_all (rs:=[12]) (by kernel_rfl) (by simp) ?_
   intro i hi
   simp only [List.mem_singleton] at hi
   subst hi
   have hbx:=(hg9.block gb hG8.lt (fun q=>hG8.ne_b.2.1 7 (by omega) (by omega) q.symm)).trans hG8.box
   have f1:W9.cell? ⟨gb,7,none⟩=some (gv 7):=by simp only [World.cell?,hbx]; rfl
   have f2:W9.frozen? ⟨gb,7,none⟩=false:=by simp only [World.frozen?,hbx]; rfl
   have hGe:=hG8.growP (k:=7) (by omega) (by omega) hg9 (L':=pi 7 ++ L.map (mvd n)) (by rw [List.length_append,hl8,icells_app]; exact hn9) hv9
   obtain ⟨a9,c9,rfl⟩:=own_len hn9
   refine wpOp_one (o:=ogH34) (by rfl) rfl ?_
   unfold ogH34
   unfold Oper.wp
   go_simp
   refine wpAny_done (by kernel_rfl) ?_ _
   refine hQ _ _ _ _ _ _ _ _ _ _ _ _ _ (W9.setCell ⟨gb,7,none⟩ _) hGe ?_ ?_
   ·exact ((hF.trans hF8).trans2 (Fr.of_grown hg9 (fun b q=>Or.inr q)) (fun _ _ q=>q)).trans2 (Fr.set W9 gb 7 _ (X:=fun b=>b=gb ∨ (gv 7).ownBlock=some b) (Or.inl rfl)) (fun _ _ q=>q)
   ·rcases hv9 with q | q
    ·exact .inl q
    ·exact .inr ⟨_,q,by have:=hW.size; have:=hb8.size; omega⟩
end Go.Proofs.Yteghpophcnehgaa
