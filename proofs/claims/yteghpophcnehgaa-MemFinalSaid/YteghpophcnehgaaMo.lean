/-
  What the functions that the law reaches do, one by one: contracts. Conditions: those that each of them prints.
-/
import Derived.Test.YteghpophcnehgaaMn
import Derived.WalkKit
import Derived.Deep.RegionWith
import Derived.Deep.DrawnRows
namespace Go.Proofs.Yteghpophcnehgaa
open Go.RowKit ExprA SndA
def ofK0:Oper:={ dst:=some 19,op:=Op.load 34 (Operand.tmp 18),type:=34,pos := "ref.go:80", after:=#[{ on:=4,ground:=Ground.data }],guard:=none }
def ofK1:Oper:={ dst:=some 20,op:=Op.load 49 (Operand.tmp 4),type:=49,pos := "ref.go:80", after:=#[],guard:=none }
def ofK2:Oper:={ dst:=some 21,op:=Op.buildSlice 34 1 #[(0,Operand.tmp 20)],type:=34,pos := "ref.go:80", after:=#[{ on:=6,ground:=Ground.data }],guard:=none }
def ofK3:Oper:={ dst:=some 22,op:=Op.call { callee:=Callee.builtin Builtin.append,args:=#[Operand.tmp 19,Operand.tmp 21],argTypes:=#[34,34] },type:=34,pos := "ref.go:80", after:=#[{ on:=5,ground:=Ground.data },{ on:=7,ground:=Ground.data }],guard:=none }
def ofK4:Oper:={ dst:=some 23,op:=Op.nilCheck (Operand.tmp 14),type:=0,pos := "ref.go:80", after:=#[{ on:=0,ground:=Ground.data },{ on:=0,ground:=Ground.phase },{ on:=1,ground:=Ground.phase },{ on:=2,ground:=Ground.phase },{ on:=3,ground:=Ground.phase },{ on:=4,ground:=Ground.phase },{ on:=5,ground:=Ground.phase },{ on:=6,ground:=Ground.phase },{ on:=7,ground:=Ground.phase },{ on:=8,ground:=Ground.phase }],guard:=none }
def ofK5:Oper:={ dst:=some 24,op:=Op.fieldAddr 98 (Operand.tmp 23) 0,type:=0,pos := "ref.go:80", after:=#[{ on:=9,ground:=Ground.data },{ on:=0,ground:=Ground.phase },{ on:=1,ground:=Ground.phase },{ on:=2,ground:=Ground.phase },{ on:=3,ground:=Ground.phase },{ on:=4,ground:=Ground.phase },{ on:=5,ground:=Ground.phase },{ on:=6,ground:=Ground.phase },{ on:=7,ground:=Ground.phase },{ on:=8,ground:=Ground.phase }],guard:=none }
def ofK6:Oper:={ dst:=some 25,op:=Op.fieldAddr 76 (Operand.tmp 24) 0,type:=0,pos := "ref.go:80", after:=#[{ on:=10,ground:=Ground.data },{ on:=0,ground:=Ground.phase },{ on:=1,ground:=Ground.phase },{ on:=2,ground:=Ground.phase },{ on:=3,ground:=Ground.phase },{ on:=4,ground:=Ground.phase },{ on:=5,ground:=Ground.phase },{ on:=6,ground:=Ground.phase },{ on:=7,ground:=Ground.phase },{ on:=8,ground:=Ground.phase }],guard:=none }
def ofK7:Oper:={ dst:=none,op:=Op.store 34 (Operand.tmp 25) (Operand.tmp 22),type:=0,pos := "ref.go:80", after:=#[{ on:=11,ground:=Ground.data },{ on:=8,ground:=Ground.data },{ on:=8,ground:=Ground.chain },{ on:=0,ground:=Ground.phase },{ on:=1,ground:=Ground.phase },{ on:=2,ground:=Ground.phase },{ on:=3,ground:=Ground.phase },{ on:=4,ground:=Ground.phase },{ on:=5,ground:=Ground.phase },{ on:=6,ground:=Ground.phase },{ on:=7,ground:=Ground.phase },{ on:=8,ground:=Ground.phase }],guard:=none }
def ofK8:Oper:={ dst:=some 43,op:=Op.load 36 (Operand.tmp 42),type:=36,pos := "ref.go:82", after:=#[{ on:=4,ground:=Ground.data }],guard:=none }
def ofK9:Oper:={ dst:=some 47,op:=Op.load 22 (Operand.tmp 46),type:=22,pos := "ref.go:82", after:=#[{ on:=8,ground:=Ground.data }],guard:=none }
def ofK10:Oper:={ dst:=some 49,op:=Op.call { callee:=Callee.value (Operand.func 78),args:=#[Operand.tmp 43,Operand.tmp 47,Operand.tmp 48],argTypes:=#[36,22,3] },type:=36,pos := "ref.go:82", after:=#[{ on:=5,ground:=Ground.data },{ on:=9,ground:=Ground.data },{ on:=10,ground:=Ground.data }],guard:=none }
def ofK11:Oper:={ dst:=some 50,op:=Op.nilCheck (Operand.tmp 38),type:=0,pos := "ref.go:82", after:=#[{ on:=0,ground:=Ground.data },{ on:=0,ground:=Ground.phase },{ on:=1,ground:=Ground.phase },{ on:=2,ground:=Ground.phase },{ on:=3,ground:=Ground.phase },{ on:=4,ground:=Ground.phase },{ on:=5,ground:=Ground.phase },{ on:=6,ground:=Ground.phase },{ on:=7,ground:=Ground.phase },{ on:=8,ground:=Ground.phase },{ on:=9,ground:=Ground.phase },{ on:=10,ground:=Ground.phase },{ on:=11,ground:=Ground.phase }],guard:=none }
def ofK12:Oper:={ dst:=some 51,op:=Op.fieldAddr 98 (Operand.tmp 50) 0,type:=0,pos := "ref.go:82", after:=#[{ on:=12,ground:=Ground.data },{ on:=0,ground:=Ground.phase },{ on:=1,ground:=Ground.phase },{ on:=2,ground:=Ground.phase },{ on:=3,ground:=Ground.phase },{ on:=4,ground:=Ground.phase },{ on:=5,ground:=Ground.phase },{ on:=6,ground:=Ground.phase },{ on:=7,ground:=Ground.phase },{ on:=8,ground:=Ground.phase },{ on:=9,ground:=Ground.phase },{ on:=10,ground:=Ground.phase },{ on:=11,ground:=Ground.phase }],guard:=none }
def ofK13:Oper:={ dst:=some 52,op:=Op.fieldAddr 76 (Operand.tmp 51) 3,type:=0,pos := "ref.go:82", after:=#[{ on:=13,ground:=Ground.data },{ on:=0,ground:=Ground.phase },{ on:=1,ground:=Ground.phase },{ on:=2,ground:=Ground.phase },{ on:=3,ground:=Ground.phase },{ on:=4,ground:=Ground.phase },{ on:=5,ground:=Ground.phase },{ on:=6,ground:=Ground.phase },{ on:=7,ground:=Ground.phase },{ on:=8,ground:=Ground.phase },{ on:=9,ground:=Ground.phase },{ on:=10,ground:=Ground.phase },{ on:=11,ground:=Ground.phase }],guard:=none }
def ofK14:Oper:={ dst:=none,op:=Op.store 36 (Operand.tmp 52) (Operand.tmp 49),type:=0,pos := "ref.go:82", after:=#[{ on:=14,ground:=Ground.data },{ on:=11,ground:=Ground.data },{ on:=11,ground:=Ground.chain },{ on:=0,ground:=Ground.phase },{ on:=1,ground:=Ground.phase },{ on:=2,ground:=Ground.phase },{ on:=3,ground:=Ground.phase },{ on:=4,ground:=Ground.phase },{ on:=5,ground:=Ground.phase },{ on:=6,ground:=Ground.phase },{ on:=7,ground:=Ground.phase },{ on:=8,ground:=Ground.phase },{ on:=9,ground:=Ground.phase },{ on:=10,ground:=Ground.phase },{ on:=11,ground:=Ground.phase }],guard:=none }
def ofK15:Oper:={ dst:=some 58,op:=Op.load 36 (Operand.tmp 57),type:=36,pos := "ref.go:83", after:=#[{ on:=4,ground:=Ground.data }],guard:=none }
def ofK16:Oper:={ dst:=some 62,op:=Op.load 22 (Operand.tmp 61),type:=22,pos := "ref.go:83", after:=#[{ on:=8,ground:=Ground.data }],guard:=none }
def ofK17:Oper:={ dst:=some 64,op:=Op.call { callee:=Callee.value (Operand.func 78),args:=#[Operand.tmp 58,Operand.tmp 62,Operand.tmp 63],argTypes:=#[36,22,3] },type:=36,pos := "ref.go:83", after:=#[{ on:=5,ground:=Ground.data },{ on:=9,ground:=Ground.data },{ on:=10,ground:=Ground.data }],guard:=none }
def ofK18:Oper:={ dst:=some 65,op:=Op.nilCheck (Operand.tmp 53),type:=0,pos := "ref.go:83", after:=#[{ on:=0,ground:=Ground.data },{ on:=0,ground:=Ground.phase },{ on:=1,ground:=Ground.phase },{ on:=2,ground:=Ground.phase },{ on:=3,ground:=Ground.phase },{ on:=4,ground:=Ground.phase },{ on:=5,ground:=Ground.phase },{ on:=6,ground:=Ground.phase },{ on:=7,ground:=Ground.phase },{ on:=8,ground:=Ground.phase },{ on:=9,ground:=Ground.phase },{ on:=10,ground:=Ground.phase },{ on:=11,ground:=Ground.phase }],guard:=none }
def ofK19:Oper:={ dst:=some 66,op:=Op.fieldAddr 98 (Operand.tmp 65) 0,type:=0,pos := "ref.go:83", after:=#[{ on:=12,ground:=Ground.data },{ on:=0,ground:=Ground.phase },{ on:=1,ground:=Ground.phase },{ on:=2,ground:=Ground.phase },{ on:=3,ground:=Ground.phase },{ on:=4,ground:=Ground.phase },{ on:=5,ground:=Ground.phase },{ on:=6,ground:=Ground.phase },{ on:=7,ground:=Ground.phase },{ on:=8,ground:=Ground.phase },{ on:=9,ground:=Ground.phase },{ on:=10,ground:=Ground.phase },{ on:=11,ground:=Ground.phase }],guard:=none }
def ofK20:Oper:={ dst:=some 67,op:=Op.fieldAddr 76 (Operand.tmp 66) 4,type:=0,pos := "ref.go:83", after:=#[{ on:=13,ground:=Ground.data },{ on:=0,ground:=Ground.phase },{ on:=1,ground:=Ground.phase },{ on:=2,ground:=Ground.phase },{ on:=3,ground:=Ground.phase },{ on:=4,ground:=Ground.phase },{ on:=5,ground:=Ground.phase },{ on:=6,ground:=Ground.phase },{ on:=7,ground:=Ground.phase },{ on:=8,ground:=Ground.phase },{ on:=9,ground:=Ground.phase },{ on:=10,ground:=Ground.phase },{ on:=11,ground:=Ground.phase }],guard:=none }
def ofK21:Oper:={ dst:=none,op:=Op.store 36 (Operand.tmp 67) (Operand.tmp 64),type:=0,pos := "ref.go:83", after:=#[{ on:=14,ground:=Ground.data },{ on:=11,ground:=Ground.data },{ on:=11,ground:=Ground.chain },{ on:=0,ground:=Ground.phase },{ on:=1,ground:=Ground.phase },{ on:=2,ground:=Ground.phase },{ on:=3,ground:=Ground.phase },{ on:=4,ground:=Ground.phase },{ on:=5,ground:=Ground.phase },{ on:=6,ground:=Ground.phase },{ on:=7,ground:=Ground.phase },{ on:=8,ground:=Ground.phase },{ on:=9,ground:=Ground.phase },{ on:=10,ground:=Ground.phase },{ on:=11,ground:=Ground.phase }],guard:=none }
def rfK0:Array Oper:=#[{ dst:=some 14,op:=Op.move (Operand.tmp 0),type:=94,pos := "ref.go:80", after:=#[],guard:=none },{ dst:=some 15,op:=Op.move (Operand.tmp 0),type:=94,pos := "ref.go:80", after:=#[],guard:=none },{ dst:=some 16,op:=Op.nilCheck (Operand.tmp 15),type:=0,pos := "ref.go:80", after:=#[{ on:=1,ground:=Ground.data }],guard:=none },{ dst:=some 17,op:=Op.fieldAddr 98 (Operand.tmp 16) 0,type:=0,pos := "ref.go:80", after:=#[{ on:=2,ground:=Ground.data }],guard:=none },{ dst:=some 18,op:=Op.fieldAddr 76 (Operand.tmp 17) 0,type:=0,pos := "ref.go:80", after:=#[{ on:=3,ground:=Ground.data }],guard:=none },{ dst:=some 19,op:=Op.load 34 (Operand.tmp 18),type:=34,pos := "ref.go:80", after:=#[{ on:=4,ground:=Ground.data }],guard:=none },{ dst:=some 20,op:=Op.load 49 (Operand.tmp 4),type:=49,pos := "ref.go:80", after:=#[],guard:=none },{ dst:=some 21,op:=Op.buildSlice 34 1 #[(0,Operand.tmp 20)],type:=34,pos := "ref.go:80", after:=#[{ on:=6,ground:=Ground.data }],guard:=none },{ dst:=some 22,op:=Op.call { callee:=Callee.builtin Builtin.append,args:=#[Operand.tmp 19,Operand.tmp 21],argTypes:=#[34,34] },type:=34,pos := "ref.go:80", after:=#[{ on:=5,ground:=Ground.data },{ on:=7,ground:=Ground.data }],guard:=none },{ dst:=some 23,op:=Op.nilCheck (Operand.tmp 14),type:=0,pos := "ref.go:80", after:=#[{ on:=0,ground:=Ground.data },{ on:=0,ground:=Ground.phase },{ on:=1,ground:=Ground.phase },{ on:=2,ground:=Ground.phase },{ on:=3,ground:=Ground.phase },{ on:=4,ground:=Ground.phase },{ on:=5,ground:=Ground.phase },{ on:=6,ground:=Ground.phase },{ on:=7,ground:=Ground.phase },{ on:=8,ground:=Ground.phase }],guard:=none },{ dst:=some 24,op:=Op.fieldAddr 98 (Operand.tmp 23) 0,type:=0,pos := "ref.go:80", after:=#[{ on:=9,ground:=Ground.data },{ on:=0,ground:=Ground.phase },{ on:=1,ground:=Ground.phase },{ on:=2,ground:=Ground.phase },{ on:=3,ground:=Ground.phase },{ on:=4,ground:=Ground.phase },{ on:=5,ground:=Ground.phase },{ on:=6,ground:=Ground.phase },{ on:=7,ground:=Ground.phase },{ on:=8,ground:=Ground.phase }],guard:=none },{ dst:=some 25,op:=Op.fieldAddr 76 (Operand.tmp 24) 0,type:=0,pos := "ref.go:80", after:=#[{ on:=10,ground:=Ground.data },{ on:=0,ground:=Ground.phase },{ on:=1,ground:=Ground.phase },{ on:=2,ground:=Ground.phase },{ on:=3,ground:=Ground.phase },{ on:=4,ground:=Ground.phase },{ on:=5,ground:=Ground.phase },{ on:=6,ground:=Ground.phase },{ on:=7,ground:=Ground.phase },{ on:=8,ground:=Ground.phase }],guard:=none },{ dst:=none,op:=Op.store 34 (Operand.tmp 25) (Operand.tmp 22),type:=0,pos := "ref.go:80", after:=#[{ on:=11,ground:=Ground.data },{ on:=8,ground:=Ground.data },{ on:=8,ground:=Ground.chain },{ on:=0,ground:=Ground.phase },{ on:=1,ground:=Ground.phase },{ on:=2,ground:=Ground.phase },{ on:=3,ground:=Ground.phase },{ on:=4,ground:=Ground.phase },{ on:=5,ground:=Ground.phase },{ on:=6,ground:=Ground.phase },{ on:=7,ground:=Ground.phase },{ on:=8,ground:=Ground.phase }],guard:=none }]
def rfK1:Array Oper:=#[{ dst:=some 38,op:=Op.move (Operand.tmp 0),type:=94,pos := "ref.go:82", after:=#[],guard:=none },{ dst:=some 39,op:=Op.move (Operand.tmp 0),type:=94,pos := "ref.go:82", after:=#[],guard:=none },{ dst:=some 40,op:=Op.nilCheck (Operand.tmp 39),type:=0,pos := "ref.go:82", after:=#[{ on:=1,ground:=Ground.data }],guard:=none },{ dst:=some 41,op:=Op.fieldAddr 98 (Operand.tmp 40) 0,type:=0,pos := "ref.go:82", after:=#[{ on:=2,ground:=Ground.data }],guard:=none },{ dst:=some 42,op:=Op.fieldAddr 76 (Operand.tmp 41) 3,type:=0,pos := "ref.go:82", after:=#[{ on:=3,ground:=Ground.data }],guard:=none },{ dst:=some 43,op:=Op.load 36 (Operand.tmp 42),type:=36,pos := "ref.go:82", after:=#[{ on:=4,ground:=Ground.data }],guard:=none },{ dst:=some 44,op:=Op.move (Operand.tmp 0),type:=94,pos := "ref.go:82", after:=#[],guard:=none },{ dst:=some 45,op:=Op.nilCheck (Operand.tmp 44),type:=0,pos := "ref.go:82", after:=#[{ on:=6,ground:=Ground.data }],guard:=none },{ dst:=some 46,op:=Op.fieldAddr 98 (Operand.tmp 45) 3,type:=0,pos := "ref.go:82", after:=#[{ on:=7,ground:=Ground.data }],guard:=none },{ dst:=some 47,op:=Op.load 22 (Operand.tmp 46),type:=22,pos := "ref.go:82", after:=#[{ on:=8,ground:=Ground.data }],guard:=none },{ dst:=some 48,op:=Op.move (Operand.tmp 7),type:=3,pos := "ref.go:82", after:=#[],guard:=none },{ dst:=some 49,op:=Op.call { callee:=Callee.value (Operand.func 78),args:=#[Operand.tmp 43,Operand.tmp 47,Operand.tmp 48],argTypes:=#[36,22,3] },type:=36,pos := "ref.go:82", after:=#[{ on:=5,ground:=Ground.data },{ on:=9,ground:=Ground.data },{ on:=10,ground:=Ground.data }],guard:=none },{ dst:=some 50,op:=Op.nilCheck (Operand.tmp 38),type:=0,pos := "ref.go:82", after:=#[{ on:=0,ground:=Ground.data },{ on:=0,ground:=Ground.phase },{ on:=1,ground:=Ground.phase },{ on:=2,ground:=Ground.phase },{ on:=3,ground:=Ground.phase },{ on:=4,ground:=Ground.phase },{ on:=5,ground:=Ground.phase },{ on:=6,ground:=Ground.phase },{ on:=7,ground:=Ground.phase },{ on:=8,ground:=Ground.phase },{ on:=9,ground:=Ground.phase },{ on:=10,ground:=Ground.phase },{ on:=11,ground:=Ground.phase }],guard:=none },{ dst:=some 51,op:=Op.fieldAddr 98 (Operand.tmp 50) 0,type:=0,pos := "ref.go:82", after:=#[{ on:=12,ground:=Ground.data },{ on:=0,ground:=Ground.phase },{ on:=1,ground:=Ground.phase },{ on:=2,ground:=Ground.phase },{ on:=3,ground:=Ground.phase },{ on:=4,ground:=Ground.phase },{ on:=5,ground:=Ground.phase },{ on:=6,ground:=Ground.phase },{ on:=7,ground:=Ground.phase },{ on:=8,ground:=Ground.phase },{ on:=9,ground:=Ground.phase },{ on:=10,ground:=Ground.phase },{ on:=11,ground:=Ground.phase }],guard:=none },{ dst:=some 52,op:=Op.fieldAddr 76 (Operand.tmp 51) 3,type:=0,pos := "ref.go:82", after:=#[{ on:=13,ground:=Ground.data },{ on:=0,ground:=Ground.phase },{ on:=1,ground:=Ground.phase },{ on:=2,ground:=Ground.phase },{ on:=3,ground:=Ground.phase },{ on:=4,ground:=Ground.phase },{ on:=5,ground:=Ground.phase },{ on:=6,ground:=Ground.phase },{ on:=7,ground:=Ground.phase },{ on:=8,ground:=Ground.phase },{ on:=9,ground:=Ground.phase },{ on:=10,ground:=Ground.phase },{ on:=11,ground:=Ground.phase }],guard:=none },{ dst:=none,op:=Op.store 36 (Operand.tmp 52) (Operand.tmp 49),type:=0,pos := "ref.go:82", after:=#[{ on:=14,ground:=Ground.data },{ on:=11,ground:=Ground.data },{ on:=11,ground:=Ground.chain },{ on:=0,ground:=Ground.phase },{ on:=1,ground:=Ground.phase },{ on:=2,ground:=Ground.phase },{ on:=3,ground:=Ground.phase },{ on:=4,ground:=Ground.phase },{ on:=5,ground:=Ground.phase },{ on:=6,ground:=Ground.phase },{ on:=7,ground:=Ground.phase },{ on:=8,ground:=Ground.phase },{ on:=9,ground:=Ground.phase },{ on:=10,ground:=Ground.phase },{ on:=11,ground:=Ground.phase }],guard:=none }]
def rfK2:Array Oper:=#[{ dst:=some 53,op:=Op.move (Operand.tmp 0),type:=94,pos := "ref.go:83", after:=#[],guard:=none },{ dst:=some 54,op:=Op.move (Operand.tmp 0),type:=94,pos := "ref.go:83", after:=#[],guard:=none },{ dst:=some 55,op:=Op.nilCheck (Operand.tmp 54),type:=0,pos := "ref.go:83", after:=#[{ on:=1,ground:=Ground.data }],guard:=none },{ dst:=some 56,op:=Op.fieldAddr 98 (Operand.tmp 55) 0,type:=0,pos := "ref.go:83", after:=#[{ on:=2,ground:=Ground.data }],guard:=none },{ dst:=some 57,op:=Op.fieldAddr 76 (Operand.tmp 56) 4,type:=0,pos := "ref.go:83", after:=#[{ on:=3,ground:=Ground.data }],guard:=none },{ dst:=some 58,op:=Op.load 36 (Operand.tmp 57),type:=36,pos := "ref.go:83", after:=#[{ on:=4,ground:=Ground.data }],guard:=none },{ dst:=some 59,op:=Op.move (Operand.tmp 0),type:=94,pos := "ref.go:83", after:=#[],guard:=none },{ dst:=some 60,op:=Op.nilCheck (Operand.tmp 59),type:=0,pos := "ref.go:83", after:=#[{ on:=6,ground:=Ground.data }],guard:=none },{ dst:=some 61,op:=Op.fieldAddr 98 (Operand.tmp 60) 4,type:=0,pos := "ref.go:83", after:=#[{ on:=7,ground:=Ground.data }],guard:=none },{ dst:=some 62,op:=Op.load 22 (Operand.tmp 61),type:=22,pos := "ref.go:83", after:=#[{ on:=8,ground:=Ground.data }],guard:=none },{ dst:=some 63,op:=Op.move (Operand.tmp 7),type:=3,pos := "ref.go:83", after:=#[],guard:=none },{ dst:=some 64,op:=Op.call { callee:=Callee.value (Operand.func 78),args:=#[Operand.tmp 58,Operand.tmp 62,Operand.tmp 63],argTypes:=#[36,22,3] },type:=36,pos := "ref.go:83", after:=#[{ on:=5,ground:=Ground.data },{ on:=9,ground:=Ground.data },{ on:=10,ground:=Ground.data }],guard:=none },{ dst:=some 65,op:=Op.nilCheck (Operand.tmp 53),type:=0,pos := "ref.go:83", after:=#[{ on:=0,ground:=Ground.data },{ on:=0,ground:=Ground.phase },{ on:=1,ground:=Ground.phase },{ on:=2,ground:=Ground.phase },{ on:=3,ground:=Ground.phase },{ on:=4,ground:=Ground.phase },{ on:=5,ground:=Ground.phase },{ on:=6,ground:=Ground.phase },{ on:=7,ground:=Ground.phase },{ on:=8,ground:=Ground.phase },{ on:=9,ground:=Ground.phase },{ on:=10,ground:=Ground.phase },{ on:=11,ground:=Ground.phase }],guard:=none },{ dst:=some 66,op:=Op.fieldAddr 98 (Operand.tmp 65) 0,type:=0,pos := "ref.go:83", after:=#[{ on:=12,ground:=Ground.data },{ on:=0,ground:=Ground.phase },{ on:=1,ground:=Ground.phase },{ on:=2,ground:=Ground.phase },{ on:=3,ground:=Ground.phase },{ on:=4,ground:=Ground.phase },{ on:=5,ground:=Ground.phase },{ on:=6,ground:=Ground.phase },{ on:=7,ground:=Ground.phase },{ on:=8,ground:=Ground.phase },{ on:=9,ground:=Ground.phase },{ on:=10,ground:=Ground.phase },{ on:=11,ground:=Ground.phase }],guard:=none },{ dst:=some 67,op:=Op.fieldAddr 76 (Operand.tmp 66) 4,type:=0,pos := "ref.go:83", after:=#[{ on:=13,ground:=Ground.data },{ on:=0,ground:=Ground.phase },{ on:=1,ground:=Ground.phase },{ on:=2,ground:=Ground.phase },{ on:=3,ground:=Ground.phase },{ on:=4,ground:=Ground.phase },{ on:=5,ground:=Ground.phase },{ on:=6,ground:=Ground.phase },{ on:=7,ground:=Ground.phase },{ on:=8,ground:=Ground.phase },{ on:=9,ground:=Ground.phase },{ on:=10,ground:=Ground.phase },{ on:=11,ground:=Ground.phase }],guard:=none },{ dst:=none,op:=Op.store 36 (Operand.tmp 67) (Operand.tmp 64),type:=0,pos := "ref.go:83", after:=#[{ on:=14,ground:=Ground.data },{ on:=11,ground:=Ground.data },{ on:=11,ground:=Ground.chain },{ on:=0,ground:=Ground.phase },{ on:=1,ground:=Ground.phase },{ on:=2,ground:=Ground.phase },{ on:=3,ground:=Ground.phase },{ on:=4,ground:=Ground.phase },{ on:=5,ground:=Ground.phase },{ on:=6,ground:=Ground.phase },{ on:=7,ground:=Ground.phase },{ on:=8,ground:=Ground.phase },{ on:=9,ground:=Ground.phase },{ on:=10,ground:=Ground.phase },{ on:=11,ground:=Ground.phase }],guard:=none }]
set_option maxRecDepth 20000 in
set_option maxHeartbeats 8000000 in
theorem evreg_l {w0:WK} {s gb:Nat} {ve vr:Value} {E:List Ev} {rm:List (Int × Int)} {used:Int} {rg:List Int} {sh:Bool} {im:Nat→Value} {li:Nat→List Int} {pi:Nat→List (Int × Int)} (w:World) (eb:Nat) (e:Ev) (h:RS w0 w s gb ve vr E rm used rg sh im li pi) (hE:E.length≤1000) (heb:w.heap[eb]?=some (.cells e.cs.toArray 49 (0,0)))
  (z1 z2 z3 z5 z6 z7 z8 z9 z10 z11 z12 z13 z14 z15 z16 z17 z18 z19 z20 z21 z22 z23 z24 z25 z26 z27 z28 z29 z30 z31 z32 z33 z34 z35 z36 z37 z38 z39 z40 z41 z42 z43 z44 z45 z46 z47 z48 z49 z50 z51 z52 z53 z54 z55 z56 z57 z58 z59 z60 z61 z62 z63 z64 z65 z66 z67 z68:Value) (Q:Exit→Act→World→Prop)
  (hQp:∀ c (a:Act) (d:Tmp) v w,Q (.panic c) (a.put (some d) v) w→Q (.panic c) a w)
  (hQ:∀ (y14 y15 y16 y17 y18 y19 y20 y21 y22 y23 y24 y25 ve':Value) (W':World),RS w0 W' s gb ve' vr (E ++ [e]) rm used rg sh im li pi→Q .normal { tmps:=(.pointer (some ⟨s,0,none⟩)::z1::z2::z3::.pointer (some ⟨eb,0,none⟩)::z5::z6::z7::z8::z9::z10::z11::z12::z13::y14::y15::y16::y17::y18::y19::y20::y21::y22::y23::y24::y25::z26::z27::z28::z29::z30::z31::z32::z33::z34::z35::z36::z37::z38::z39::z40::z41::z42::z43::z44::z45::z46::z47::z48::z49::z50::z51::z52::z53::z54::z55::z56::z57::z58::z59::z60::z61::z62::z63::z64::z65::z66::z67::z68::[]).toArray,defers:=[] } W') :
  Code.wp Try.prog (Code.region 2 rfK0 true) Q { tmps:=(.pointer (some ⟨s,0,none⟩)::z1::z2::z3::.pointer (some ⟨eb,0,none⟩)::z5::z6::z7::z8::z9::z10::z11::z12::z13::z14::z15::z16::z17::z18::z19::z20::z21::z22::z23::z24::z25::z26::z27::z28::z29::z30::z31::z32::z33::z34::z35::z36::z37::z38::z39::z40::z41::z42::z43::z44::z45::z46::z47::z48::z49::z50::z51::z52::z53::z54::z55::z56::z57::z58::z59::z60::z61::z62::z63::z64::z65::z66::z67::z68::[]).toArray,defers:=[] } w:=by
 unfold rfK0
 obtain ⟨pa,pc,rfl⟩:=own_len h.oe
 refine wp_region_any (by kernel_rfl) ?_
 have hB:=h.next (Below.refl _ _).drew
 have hD:Below w.heap.size w w.drew:=(Below.refl _ _).drew
 change wpAny _ _ _ _ _ _ _ (World.drew _)
 generalize World.drew w=W at hB hD ⊢
 clear h
 have hebl:eb < w.heap.size:=blk_lt heb
 refine wpAny_take (i:=0) (v:=.pointer (some ⟨s,0,none⟩)) rfl (by kernel_rfl) (by kernel_rfl) (by kernel_rfl) (fun c a w=>hQp c a _ _ w) (Or.inl ⟨by rfl,?_⟩) ?_
 ·intro w
  go_simp
 refine wpAny_take (i:=1) (v:=.pointer (some ⟨s,0,none⟩)) rfl (by kernel_rfl) (by kernel_rfl) (by kernel_rfl) (fun c a w=>hQp c a _ _ w) (Or.inl ⟨by rfl,?_⟩) ?_
 ·intro w
  go_simp
 refine wpAny_take (i:=2) (v:=.pointer (some ⟨s,0,none⟩)) rfl (by kernel_rfl) (by kernel_rfl) (by kernel_rfl) (fun c a w=>hQp c a _ _ w) (Or.inl ⟨by rfl,?_⟩) ?_
 ·intro w
  go_simp
 refine wpAny_take (i:=3) (v:=.pointer (some ⟨s,0,none⟩)) rfl (by kernel_rfl) (by kernel_rfl) (by kernel_rfl) (fun c a w=>hQp c a _ _ w) (Or.inl ⟨by rfl,?_⟩) ?_
 ·intro w
  go_simp
 refine wpAny_take (i:=4) (v:=.pointer (some ⟨s,0,none⟩)) rfl (by kernel_rfl) (by kernel_rfl) (by kernel_rfl) (fun c a w=>hQp c a _ _ w) (Or.inl ⟨by rfl,?_⟩) ?_
 ·intro w
  go_simp
 show wpAny _ _ _ _ 8 _ _ _
 refine wpAny_all (rs:=[5,6]) (by kernel_rfl) (by simp) ?_
 intro i hi
 simp only [List.mem_cons,List.not_mem_nil,or_false] at hi
 rcases hi with rfl | rfl
 ·have c0:W.cell? ⟨s,0,none⟩=some (.slice pa E.length pc):=by simp only [World.cell?,hB.box]; rfl
  refine wpOp_one (o:=ofK0) (by rfl) rfl ?_
  unfold ofK0
  unfold Oper.wp
  go_simp
  clear c0
  refine wpAny_all (rs:=[6]) (by kernel_rfl) (by simp) ?_
  intro i hi
  simp only [List.mem_singleton] at hi
  subst hi
  have hce:=(hD.block _ hebl).trans heb
  have ce0:W.cell? ⟨eb,0,none⟩=some (.int .i64 e.th):=by simp only [World.cell?,hce]; rfl
  have ce1:W.cell? ⟨eb,1,none⟩=some (.int .i64 e.kd):=by simp only [World.cell?,hce]; rfl
  have ce2:W.cell? ⟨eb,2,none⟩=some (.int .i64 e.md):=by simp only [World.cell?,hce]; rfl
  have ce3:W.cell? ⟨eb,3,none⟩=some (.int .i64 e.lc):=by simp only [World.cell?,hce]; rfl
  have ce4:W.cell? ⟨eb,4,none⟩=some (.int .i64 e.vl):=by simp only [World.cell?,hce]; rfl
  have ce5:W.cell? ⟨eb,5,none⟩=some (.bool e.ex):=by simp only [World.cell?,hce]; rfl
  clear hce
  refine wpOp_one (o:=ofK1) (by rfl) rfl ?_
  unfold ofK1
  unfold Oper.wp
  go_simp
  clear ce0 ce1 ce2 ce3 ce4 ce5
  refine wpAny_all (rs:=[7]) (by kernel_rfl) (by simp) ?_
  intro i hi
  simp only [List.mem_singleton] at hi
  subst hi
  have hB5:=hB.next ((Below.refl W.heap.size W).alloc (Nat.le_refl _) (Obj.cells #[.int .i64 e.th,.int .i64 e.kd,.int .i64 e.md,.int .i64 e.lc,.int .i64 e.vl,.bool e.ex] 49))
  have hD5:=hD.alloc hD.size (Obj.cells #[.int .i64 e.th,.int .i64 e.kd,.int .i64 e.md,.int .i64 e.lc,.int .i64 e.vl,.bool e.ex] 49)
  have hS5:=heap_alloc_new W (Obj.cells #[.int .i64 e.th,.int .i64 e.kd,.int .i64 e.md,.int .i64 e.lc,.int .i64 e.vl,.bool e.ex] 49)
  clear hB hD
  have hB:=hB5
  have hD:=hD5
  have hS:=hS5
  clear hB5 hD5 hS5
  refine wpOp_one (o:=ofK2) (by rfl) rfl ?_
  unfold ofK2
  unfold Oper.wp
  go_simp
  obtain ⟨W2,hW2⟩:∃ W2,W2=W.alloc (Obj.cells #[.int .i64 e.th,.int .i64 e.kd,.int .i64 e.md,.int .i64 e.lc,.int .i64 e.vl,.bool e.ex] 49):=⟨_,rfl⟩
  obtain ⟨xb,hxb⟩:∃ xb,xb=W.heap.size:=⟨_,rfl⟩
  rw [← hW2] at hB hD hS ⊢
  rw [← hxb] at hS ⊢
  clear hW2 hxb
  refine wpAny_all (rs:=[8]) (by kernel_rfl) (by simp) ?_
  intro i hi
  simp only [List.mem_singleton] at hi
  subst hi
  obtain ⟨i,hi,z1,z2,z3⟩:=info_parts infoEv
  obtain ⟨v8,W8,hr8,ho8,hg8,hv8⟩:=append_gen (P:=Try.prog) w0.heap.size 34 34 49 i _ 6 48 Try.underlying34 hi z1 z2 z3 rfl (by omega) _ E.length (ecs E) hB.oe (some ⟨xb,0,none⟩) 1 1 e.cs rfl (.inr ⟨_,rfl,World.news_of_block (cs:=e.cs.toArray) hS⟩) (by intro u hu; simp [Ev.cs] at hu; rcases hu with rfl | rfl | rfl | rfl | rfl | rfl <;> rfl) (by unfold maxLen; omega) (by omega) hB.bel.size
  have hbx:W8.heap[s]?=_:=(hg8.block s hB.lts (fun q=>hB.ne_s.2.1 q.symm)).trans hB.box
  have ho9:W8.ownsRow w0.heap.size 49 6 v8 (E ++ [e]).length (ecs (E ++ [e])):=by
   have q1:(E ++ [e]).length=E.length + 1:=by simp
   have q2:ecs (E ++ [e])=ecs E ++ e.cs:=by simp [ecs]
   rw [q1,q2]; exact ho8
  have hF:=hB.growE hg8 ho9 hv8
  obtain ⟨pa8,pc8,e8⟩:=own_len ho8
  subst e8
  refine wpOp_one (o:=ofK3) (by rfl) rfl ?_
  unfold ofK3
  refine appOp (Operand.tmp 19) (Operand.tmp 21) 34 rfl (by kernel_rfl) (by kernel_rfl) hr8 ?_
  clear hr8 ho8 hg8 hv8 hB hD hS ho9
  refine wpAny_all (rs:=[9]) (by kernel_rfl) (by simp) ?_
  intro i hi
  simp only [List.mem_singleton] at hi
  subst hi
  refine wpOp_one (o:=ofK4) (by rfl) rfl ?_
  unfold ofK4
  unfold Oper.wp
  go_simp
  refine wpAny_all (rs:=[10]) (by kernel_rfl) (by simp) ?_
  intro i hi
  simp only [List.mem_singleton] at hi
  subst hi
  refine wpOp_one (o:=ofK5) (by rfl) rfl ?_
  unfold ofK5
  unfold Oper.wp
  go_simp
  refine wpAny_all (rs:=[11]) (by kernel_rfl) (by simp) ?_
  intro i hi
  simp only [List.mem_singleton] at hi
  subst hi
  refine wpOp_one (o:=ofK6) (by rfl) rfl ?_
  unfold ofK6
  unfold Oper.wp
  go_simp
  refine wpAny_all (rs:=[12]) (by kernel_rfl) (by simp) ?_
  intro i hi
  simp only [List.mem_singleton] at hi
  subst hi
  have c1:W8.cell? ⟨s,0,none⟩=some (.slice pa E.length pc):=by simp only [World.cell?,hbx]; rfl
  have d1:W8.frozen? ⟨s,0,none⟩=false:=by simp only [World.frozen?,hbx]; rfl
  clear hbx
  refine wpOp_one (o:=ofK7) (by rfl) rfl ?_
  unfold ofK7
  unfold Oper.wp
  go_simp
  refine wpAny_done (by kernel_rfl) ?_ _
  exact hQ _ _ _ _ _ _ _ _ _ _ _ _ _ _ hF
 ·have hce:=(hD.block _ hebl).trans heb
  have ce0:W.cell? ⟨eb,0,none⟩=some (.int .i64 e.th):=by simp only [World.cell?,hce]; rfl
  have ce1:W.cell? ⟨eb,1,none⟩=some (.int .i64 e.kd):=by simp only [World.cell?,hce]; rfl
  have ce2:W.cell? ⟨eb,2,none⟩=some (.int .i64 e.md):=by simp only [World.cell?,hce]; rfl
  have ce3:W.cell? ⟨eb,3,none⟩=some (.int .i64 e.lc):=by simp only [World.cell?,hce]; rfl
  have ce4:W.cell? ⟨eb,4,none⟩=some (.int .i64 e.vl):=by simp only [World.cell?,hce]; rfl
  have ce5:W.cell? ⟨eb,5,none⟩=some (.bool e.ex):=by simp only [World.cell?,hce]; rfl
  clear hce
  refine wpOp_one (o:=ofK1) (by rfl) rfl ?_
  unfold ofK1
  unfold Oper.wp
  go_simp
  clear ce0 ce1 ce2 ce3 ce4 ce5
  refine wpAny_all (rs:=[5,7]) (by kernel_rfl) (by simp) ?_
  intro i hi
  simp only [List.mem_cons,List.not_mem_nil,or_false] at hi
  rcases hi with rfl | rfl
  ·have c0:W.cell? ⟨s,0,none⟩=some (.slice pa E.length pc):=by simp only [World.cell?,hB.box]; rfl
   refine wpOp_one (o:=ofK0) (by rfl) rfl ?_
   unfold ofK0
   unfold Oper.wp
   go_simp
   clear c0
   refine wpAny_all (rs:=[7]) (by kernel_rfl) (by simp) ?_
   intro i hi
   simp only [List.mem_singleton] at hi
   subst hi
   have hB5:=hB.next ((Below.refl W.heap.size W).alloc (Nat.le_refl _) (Obj.cells #[.int .i64 e.th,.int .i64 e.kd,.int .i64 e.md,.int .i64 e.lc,.int .i64 e.vl,.bool e.ex] 49))
   have hD5:=hD.alloc hD.size (Obj.cells #[.int .i64 e.th,.int .i64 e.kd,.int .i64 e.md,.int .i64 e.lc,.int .i64 e.vl,.bool e.ex] 49)
   have hS5:=heap_alloc_new W (Obj.cells #[.int .i64 e.th,.int .i64 e.kd,.int .i64 e.md,.int .i64 e.lc,.int .i64 e.vl,.bool e.ex] 49)
   clear hB hD
   have hB:=hB5
   have hD:=hD5
   have hS:=hS5
   clear hB5 hD5 hS5
   refine wpOp_one (o:=ofK2) (by rfl) rfl ?_
   unfold ofK2
   unfold Oper.wp
   go_simp
   obtain ⟨W2,hW2⟩:∃ W2,W2=W.alloc (Obj.cells #[.int .i64 e.th,.int .i64 e.kd,.int .i64 e.md,.int .i64 e.lc,.int .i64 e.vl,.bool e.ex] 49):=⟨_,rfl⟩
   obtain ⟨xb,hxb⟩:∃ xb,xb=W.heap.size:=⟨_,rfl⟩
   rw [← hW2] at hB hD hS ⊢
   rw [← hxb] at hS ⊢
   clear hW2 hxb
   refine wpAny_all (rs:=[8]) (by kernel_rfl) (by simp) ?_
   intro i hi
   simp only [List.mem_singleton] at hi
   subst hi
   obtain ⟨i,hi,z1,z2,z3⟩:=info_parts infoEv
   obtain ⟨v8,W8,hr8,ho8,hg8,hv8⟩:=append_gen (P:=Try.prog) w0.heap.size 34 34 49 i _ 6 48 Try.underlying34 hi z1 z2 z3 rfl (by omega) _ E.length (ecs E) hB.oe (some ⟨xb,0,none⟩) 1 1 e.cs rfl (.inr ⟨_,rfl,World.news_of_block (cs:=e.cs.toArray) hS⟩) (by intro u hu; simp [Ev.cs] at hu; rcases hu with rfl | rfl | rfl | rfl | rfl | rfl <;> rfl) (by unfold maxLen; omega) (by omega) hB.bel.size
   have hbx:W8.heap[s]?=_:=(hg8.block s hB.lts (fun q=>hB.ne_s.2.1 q.symm)).trans hB.box
   have ho9:W8.ownsRow w0.heap.size 49 6 v8 (E ++ [e]).length (ecs (E ++ [e])):=by
    have q1:(E ++ [e]).length=E.length + 1:=by simp
    have q2:ecs (E ++ [e])=ecs E ++ e.cs:=by simp [ecs]
    rw [q1,q2]; exact ho8
   have hF:=hB.growE hg8 ho9 hv8
   obtain ⟨pa8,pc8,e8⟩:=own_len ho8
   subst e8
   refine wpOp_one (o:=ofK3) (by rfl) rfl ?_
   unfold ofK3
   refine appOp (Operand.tmp 19) (Operand.tmp 21) 34 rfl (by kernel_rfl) (by kernel_rfl) hr8 ?_
   clear hr8 ho8 hg8 hv8 hB hD hS ho9
   refine wpAny_all (rs:=[9]) (by kernel_rfl) (by simp) ?_
   intro i hi
   simp only [List.mem_singleton] at hi
   subst hi
   refine wpOp_one (o:=ofK4) (by rfl) rfl ?_
   unfold ofK4
   unfold Oper.wp
   go_simp
   refine wpAny_all (rs:=[10]) (by kernel_rfl) (by simp) ?_
   intro i hi
   simp only [List.mem_singleton] at hi
   subst hi
   refine wpOp_one (o:=ofK5) (by rfl) rfl ?_
   unfold ofK5
   unfold Oper.wp
   go_simp
   refine wpAny_all (rs:=[11]) (by kernel_rfl) (by simp) ?_
   intro i hi
   simp only [List.mem_singleton] at hi
   subst hi
   refine wpOp_one (o:=ofK6) (by rfl) rfl ?_
   unfold ofK6
   unfold Oper.wp
   go_simp
   refine wpAny_all (rs:=[12]) (by kernel_rfl) (by simp) ?_
   intro i hi
   simp only [List.mem_singleton] at hi
   subst hi
   have c1:W8.cell? ⟨s,0,none⟩=some (.slice pa E.length pc):=by simp only [World.cell?,hbx]; rfl
   have d1:W8.frozen? ⟨s,0,none⟩=false:=by simp only [World.frozen?,hbx]; rfl
   clear hbx
   refine wpOp_one (o:=ofK7) (by rfl) rfl ?_
   unfold ofK7
   unfold Oper.wp
   go_simp
   refine wpAny_done (by kernel_rfl) ?_ _
   exact hQ _ _ _ _ _ _ _ _ _ _ _ _ _ _ hF
  ·have hB5:=hB.next ((Below.refl W.heap.size W).alloc (Nat.le_refl _) (Obj.cells #[.int .i64 e.th,.int .i64 e.kd,.int .i64 e.md,.int .i64 e.lc,.int .i64 e.vl,.bool e.ex] 49))
   have hD5:=hD.alloc hD.size (Obj.cells #[.int .i64 e.th,.int .i64 e.kd,.int .i64 e.md,.int .i64 e.lc,.int .i64 e.vl,.bool e.ex] 49)
   have hS5:=heap_alloc_new W (Obj.cells #[.int .i64 e.th,.int .i64 e.kd,.int .i64 e.md,.int .i64 e.lc,.int .i64 e.vl,.bool e.ex] 49)
   clear hB hD
   have hB:=hB5
   have hD:=hD5
   have hS:=hS5
   clear hB5 hD5 hS5
   refine wpOp_one (o:=ofK2) (by rfl) rfl ?_
   unfold ofK2
   unfold Oper.wp
   go_simp
   obtain ⟨W2,hW2⟩:∃ W2,W2=W.alloc (Obj.cells #[.int .i64 e.th,.int .i64 e.kd,.int .i64 e.md,.int .i64 e.lc,.int .i64 e.vl,.bool e.ex] 49):=⟨_,rfl⟩
   obtain ⟨xb,hxb⟩:∃ xb,xb=W.heap.size:=⟨_,rfl⟩
   rw [← hW2] at hB hD hS ⊢
   rw [← hxb] at hS ⊢
   clear hW2 hxb
   refine wpAny_all (rs:=[5]) (by kernel_rfl) (by simp) ?_
   intro i hi
   simp only [List.mem_singleton] at hi
   subst hi
   have c0:W2.cell? ⟨s,0,none⟩=some (.slice pa E.length pc):=by simp only [World.cell?,hB.box]; rfl
   refine wpOp_one (o:=ofK0) (by rfl) rfl ?_
   unfold ofK0
   unfold Oper.wp
   go_simp
   clear c0
   refine wpAny_all (rs:=[8]) (by kernel_rfl) (by simp) ?_
   intro i hi
   simp only [List.mem_singleton] at hi
   subst hi
   obtain ⟨i,hi,z1,z2,z3⟩:=info_parts infoEv
   obtain ⟨v8,W8,hr8,ho8,hg8,hv8⟩:=append_gen (P:=Try.prog) w0.heap.size 34 34 49 i _ 6 48 Try.underlying34 hi z1 z2 z3 rfl (by omega) _ E.length (ecs E) hB.oe (some ⟨xb,0,none⟩) 1 1 e.cs rfl (.inr ⟨_,rfl,World.news_of_block (cs:=e.cs.toArray) hS⟩) (by intro u hu; simp [Ev.cs] at hu; rcases hu with rfl | rfl | rfl | rfl | rfl | rfl <;> rfl) (by unfold maxLen; omega) (by omega) hB.bel.size
   have hbx:W8.heap[s]?=_:=(hg8.block s hB.lts (fun q=>hB.ne_s.2.1 q.symm)).trans hB.box
   have ho9:W8.ownsRow w0.heap.size 49 6 v8 (E ++ [e]).length (ecs (E ++ [e])):=by
    have q1:(E ++ [e]).length=E.length + 1:=by simp
    have q2:ecs (E ++ [e])=ecs E ++ e.cs:=by simp [ecs]
    rw [q1,q2]; exact ho8
   have hF:=hB.growE hg8 ho9 hv8
   obtain ⟨pa8,pc8,e8⟩:=own_len ho8
   subst e8
   refine wpOp_one (o:=ofK3) (by rfl) rfl ?_
   unfold ofK3
   refine appOp (Operand.tmp 19) (Operand.tmp 21) 34 rfl (by kernel_rfl) (by kernel_rfl) hr8 ?_
   clear hr8 ho8 hg8 hv8 hB hD hS ho9
   refine wpAny_all (rs:=[9]) (by kernel_rfl) (by simp) ?_
   intro i hi
   simp only [List.mem_singleton] at hi
   subst hi
   refine wpOp_one (o:=ofK4) (by rfl) rfl ?_
   unfold ofK4
   unfold Oper.wp
   go_simp
   refine wpAny_all (rs:=[10]) (by kernel_rfl) (by simp) ?_
   intro i hi
   simp only [List.mem_singleton] at hi
   subst hi
   refine wpOp_one (o:=ofK5) (by rfl) rfl ?_
   unfold ofK5
   unfold Oper.wp
   go_simp
   refine wpAny_all (rs:=[11]) (by kernel_rfl) (by simp) ?_
   intro i hi
   simp only [List.mem_singleton] at hi
   subst hi
   refine wpOp_one (o:=ofK6) (by rfl) rfl ?_
   unfold ofK6
   unfold Oper.wp
   go_simp
   refine wpAny_all (rs:=[12]) (by kernel_rfl) (by simp) ?_
   intro i hi
   simp only [List.mem_singleton] at hi
   subst hi
   have c1:W8.cell? ⟨s,0,none⟩=some (.slice pa E.length pc):=by simp only [World.cell?,hbx]; rfl
   have d1:W8.frozen? ⟨s,0,none⟩=false:=by simp only [World.frozen?,hbx]; rfl
   clear hbx
   refine wpOp_one (o:=ofK7) (by rfl) rfl ?_
   unfold ofK7
   unfold Oper.wp
   go_simp
   refine wpAny_done (by kernel_rfl) ?_ _
   exact hQ _ _ _ _ _ _ _ _ _ _ _ _ _ _ hF
attribute [local go_sem ↓] Go.wp_at_zero Go.wp_at_succ
set_option maxRecDepth 20000 in
set_option maxHeartbeats 8000000 in
theorem depreg4_l {w0:WK} {s gb:Nat} {ve vr:Value} {E:List Ev} {rm:List (Int × Int)} {used:Int} {rg:List Int} {sh:Bool} {im:Nat→Value} {li:Nat→List Int} {pi:Nat→List (Int × Int)} (w:World) (n:Int) (h:RS w0 w s gb ve vr E rm used rg sh im li pi) (hl:(pi 3).length + (li 16).length≤1000)
  (z1 z2 z3 z4 z5 z6 z8 z9 z10 z11 z12 z13 z14 z15 z16 z17 z18 z19 z20 z21 z22 z23 z24 z25 z26 z27 z28 z29 z30 z31 z32 z33 z34 z35 z36 z37 z38 z39 z40 z41 z42 z43 z44 z45 z46 z47 z48 z49 z50 z51 z52 z53 z54 z55 z56 z57 z58 z59 z60 z61 z62 z63 z64 z65 z66 z67 z68:Value) (Q:Exit→Act→World→Prop)
  (hQp:∀ c (a:Act) (d:Tmp) v w,Q (.panic c) (a.put (some d) v) w→Q (.panic c) a w)
  (hQ:∀ (y38 y39 y40 y41 y42 y43 y44 y45 y46 y47 y48 y49 y50 y51 y52 v':Value) (M:List (Int × Int)) (W':World),RS w0 W' s gb ve vr E rm used rg sh (updF im 3 v') li (updF pi 3 M)→PairsOk (pi 3) (li 16) n M→Q .normal { tmps:=(.pointer (some ⟨s,0,none⟩)::z1::z2::z3::z4::z5::z6::.int .i64 n::z8::z9::z10::z11::z12::z13::z14::z15::z16::z17::z18::z19::z20::z21::z22::z23::z24::z25::z26::z27::z28::z29::z30::z31::z32::z33::z34::z35::z36::z37::y38::y39::y40::y41::y42::y43::y44::y45::y46::y47::y48::y49::y50::y51::y52::z53::z54::z55::z56::z57::z58::z59::z60::z61::z62::z63::z64::z65::z66::z67::z68::[]).toArray,defers:=[] } W') :
  Code.wp Try.prog (Code.region 4 rfK1 true) Q { tmps:=(.pointer (some ⟨s,0,none⟩)::z1::z2::z3::z4::z5::z6::.int .i64 n::z8::z9::z10::z11::z12::z13::z14::z15::z16::z17::z18::z19::z20::z21::z22::z23::z24::z25::z26::z27::z28::z29::z30::z31::z32::z33::z34::z35::z36::z37::z38::z39::z40::z41::z42::z43::z44::z45::z46::z47::z48::z49::z50::z51::z52::z53::z54::z55::z56::z57::z58::z59::z60::z61::z62::z63::z64::z65::z66::z67::z68::[]).toArray,defers:=[] } w:=by
 unfold rfK1
 have hB:=h.next (Below.refl _ _).drew
 have c1:w.cell? ⟨s,3,none⟩=some (im 3):=by simp only [World.cell?,h.box]; rfl
 have c2:w.cell? ⟨s,16,none⟩=some (im 16):=by simp only [World.cell?,h.box]; rfl
 have HS:=Lib.hid hB
 have HQ:=Lib.hid hQ
 clear h hB hQ
 refine wp_region_any (by kernel_rfl) ?_
 change wpAny _ _ _ _ _ _ _ (World.drew _)
 have c1:w.drew.cell? ⟨s,3,none⟩=some (im 3):=c1
 have c2:w.drew.cell? ⟨s,16,none⟩=some (im 16):=c2
 generalize World.drew w=W at HS c1 c2 ⊢
 refine wpAny_take (i:=0) (v:=.pointer (some ⟨s,0,none⟩)) rfl (by kernel_rfl) (by kernel_rfl) (by kernel_rfl) (fun c a w=>hQp c a _ _ w) (Or.inl ⟨by rfl,?_⟩) ?_
 ·intro w
  go_simp
 refine wpAny_take (i:=1) (v:=.pointer (some ⟨s,0,none⟩)) rfl (by kernel_rfl) (by kernel_rfl) (by kernel_rfl) (fun c a w=>hQp c a _ _ w) (Or.inl ⟨by rfl,?_⟩) ?_
 ·intro w
  go_simp
 refine wpAny_take (i:=2) (v:=.pointer (some ⟨s,0,none⟩)) rfl (by kernel_rfl) (by kernel_rfl) (by kernel_rfl) (fun c a w=>hQp c a _ _ w) (Or.inl ⟨by rfl,?_⟩) ?_
 ·intro w
  go_simp
 refine wpAny_take (i:=3) (v:=.pointer (some ⟨s,0,none⟩)) rfl (by kernel_rfl) (by kernel_rfl) (by kernel_rfl) (fun c a w=>hQp c a _ _ w) (Or.inl ⟨by rfl,?_⟩) ?_
 ·intro w
  go_simp
 refine wpAny_take (i:=4) (v:=.pointer (some ⟨s,3,none⟩)) rfl (by kernel_rfl) (by kernel_rfl) (by kernel_rfl) (fun c a w=>hQp c a _ _ w) (Or.inl ⟨by rfl,?_⟩) ?_
 ·intro w
  go_simp
 refine wpAny_take (i:=6) (v:=.pointer (some ⟨s,0,none⟩)) rfl (by kernel_rfl) (by kernel_rfl) (by kernel_rfl) (fun c a w=>hQp c a _ _ w) (Or.inl ⟨by rfl,?_⟩) ?_
 ·intro w
  go_simp
 refine wpAny_take (i:=7) (v:=.pointer (some ⟨s,0,none⟩)) rfl (by kernel_rfl) (by kernel_rfl) (by kernel_rfl) (fun c a w=>hQp c a _ _ w) (Or.inl ⟨by rfl,?_⟩) ?_
 ·intro w
  go_simp
 refine wpAny_take (i:=8) (v:=.pointer (some ⟨s,16,none⟩)) rfl (by kernel_rfl) (by kernel_rfl) (by kernel_rfl) (fun c a w=>hQp c a _ _ w) (Or.inl ⟨by rfl,?_⟩) ?_
 ·intro w
  go_simp
 refine wpAny_take (i:=10) (v:=.int .i64 n) rfl (by kernel_rfl) (by kernel_rfl) (by kernel_rfl) (fun c a w=>hQp c a _ _ w) (Or.inl ⟨by rfl,?_⟩) ?_
 ·intro w
  go_simp
 show wpAny _ _ _ _ 7 _ _ _
 refine wpAny_all (rs:=[5,9]) (by kernel_rfl) (by simp) ?_
 intro i hi
 simp only [List.mem_cons,List.not_mem_nil,or_false] at hi
 rcases hi with rfl | rfl
 ·refine wpOp_one (o:=ofK8) (by rfl) rfl ?_
  unfold ofK8
  unfold Oper.wp
  go_simp
  refine wpAny_all (rs:=[9]) (by kernel_rfl) (by simp) ?_
  intro i hi
  simp only [List.mem_singleton] at hi
  subst hi
  refine wpOp_one (o:=ofK9) (by rfl) rfl ?_
  unfold ofK9
  unfold Oper.wp
  go_simp
  refine wpAny_all (rs:=[11]) (by kernel_rfl) (by simp) ?_
  intro i hi
  simp only [List.mem_singleton] at hi
  subst hi
  refine wpOp_one (o:=ofK10) (by rfl) rfl ?_
  unfold ofK10
  unfold Oper.wp
  go_simp
  refine (pairs_any (im 3) (im 16) (pi 3) (li 16) n _ (HS.out.cp 3 (by omega) (by omega)) (HS.out.cl 16 (by omega) (by omega)) hl).mono ?_
  rintro e w2 ⟨⟨v',M,rfl,hv,hp,hn⟩,hb⟩
  dsimp only
  have hS2:=HS.out.next hb
  have ha:Apart w2 s gb ve vr v':=by
   rcases hn with q | q
   ·rw [q]; exact fun b r=>hS2.apt 3 (.inl ⟨by omega,by omega⟩) b r
   ·exact apart_new hv q HS.out.lts HS.out.ltg (fun b r=>(HS.out.oe.lt b r).2) (fun b r=>(HS.out.op.lt b r).2)
  have hF:=hS2.set3 v' M hv ha (HS.out.newAt 3 (by omega) (by omega) hn)
  have k1:w2.cell? ⟨s,3,none⟩=some (im 3):=by simp only [World.cell?,hS2.box]; rfl
  have d1:w2.frozen? ⟨s,3,none⟩=false:=by simp only [World.frozen?,hS2.box]; rfl
  obtain ⟨pa8,pc8,e8⟩:=own_len hv
  subst e8
  clear hv hn hb hS2 ha
  refine wpAny_all (rs:=[12]) (by kernel_rfl) (by simp) ?_
  intro i hi
  simp only [List.mem_singleton] at hi
  subst hi
  refine wpOp_one (o:=ofK11) (by rfl) rfl ?_
  unfold ofK11
  unfold Oper.wp
  go_simp
  refine wpAny_all (rs:=[13]) (by kernel_rfl) (by simp) ?_
  intro i hi
  simp only [List.mem_singleton] at hi
  subst hi
  refine wpOp_one (o:=ofK12) (by rfl) rfl ?_
  unfold ofK12
  unfold Oper.wp
  go_simp
  refine wpAny_all (rs:=[14]) (by kernel_rfl) (by simp) ?_
  intro i hi
  simp only [List.mem_singleton] at hi
  subst hi
  refine wpOp_one (o:=ofK13) (by rfl) rfl ?_
  unfold ofK13
  unfold Oper.wp
  go_simp
  refine wpAny_all (rs:=[15]) (by kernel_rfl) (by simp) ?_
  intro i hi
  simp only [List.mem_singleton] at hi
  subst hi
  refine wpOp_one (o:=ofK14) (by rfl) rfl ?_
  unfold ofK14
  unfold Oper.wp
  go_simp
  refine wpAny_done (by kernel_rfl) ?_ _
  exact HQ.out _ _ _ _ _ _ _ _ _ _ _ _ _ _ _ _ M _ hF hp
 ·refine wpOp_one (o:=ofK9) (by rfl) rfl ?_
  unfold ofK9
  unfold Oper.wp
  go_simp
  refine wpAny_all (rs:=[5]) (by kernel_rfl) (by simp) ?_
  intro i hi
  simp only [List.mem_singleton] at hi
  subst hi
  refine wpOp_one (o:=ofK8) (by rfl) rfl ?_
  unfold ofK8
  unfold Oper.wp
  go_simp
  refine wpAny_all (rs:=[11]) (by kernel_rfl) (by simp) ?_
  intro i hi
  simp only [List.mem_singleton] at hi
  subst hi
  refine wpOp_one (o:=ofK10) (by rfl) rfl ?_
  unfold ofK10
  unfold Oper.wp
  go_simp
  refine (pairs_any (im 3) (im 16) (pi 3) (li 16) n _ (HS.out.cp 3 (by omega) (by omega)) (HS.out.cl 16 (by omega) (by omega)) hl).mono ?_
  rintro e w2 ⟨⟨v',M,rfl,hv,hp,hn⟩,hb⟩
  dsimp only
  have hS2:=HS.out.next hb
  have ha:Apart w2 s gb ve vr v':=by
   rcases hn with q | q
   ·rw [q]; exact fun b r=>hS2.apt 3 (.inl ⟨by omega,by omega⟩) b r
   ·exact apart_new hv q HS.out.lts HS.out.ltg (fun b r=>(HS.out.oe.lt b r).2) (fun b r=>(HS.out.op.lt b r).2)
  have hF:=hS2.set3 v' M hv ha (HS.out.newAt 3 (by omega) (by omega) hn)
  have k1:w2.cell? ⟨s,3,none⟩=some (im 3):=by simp only [World.cell?,hS2.box]; rfl
  have d1:w2.frozen? ⟨s,3,none⟩=false:=by simp only [World.frozen?,hS2.box]; rfl
  obtain ⟨pa8,pc8,e8⟩:=own_len hv
  subst e8
  clear hv hn hb hS2 ha
  refine wpAny_all (rs:=[12]) (by kernel_rfl) (by simp) ?_
  intro i hi
  simp only [List.mem_singleton] at hi
  subst hi
  refine wpOp_one (o:=ofK11) (by rfl) rfl ?_
  unfold ofK11
  unfold Oper.wp
  go_simp
  refine wpAny_all (rs:=[13]) (by kernel_rfl) (by simp) ?_
  intro i hi
  simp only [List.mem_singleton] at hi
  subst hi
  refine wpOp_one (o:=ofK12) (by rfl) rfl ?_
  unfold ofK12
  unfold Oper.wp
  go_simp
  refine wpAny_all (rs:=[14]) (by kernel_rfl) (by simp) ?_
  intro i hi
  simp only [List.mem_singleton] at hi
  subst hi
  refine wpOp_one (o:=ofK13) (by rfl) rfl ?_
  unfold ofK13
  unfold Oper.wp
  go_simp
  refine wpAny_all (rs:=[15]) (by kernel_rfl) (by simp) ?_
  intro i hi
  simp only [List.mem_singleton] at hi
  subst hi
  refine wpOp_one (o:=ofK14) (by rfl) rfl ?_
  unfold ofK14
  unfold Oper.wp
  go_simp
  refine wpAny_done (by kernel_rfl) ?_ _
  exact HQ.out _ _ _ _ _ _ _ _ _ _ _ _ _ _ _ _ M _ hF hp
set_option maxRecDepth 20000 in
set_option maxHeartbeats 8000000 in
theorem depreg5_l {w0:WK} {s gb:Nat} {ve vr:Value} {E:List Ev} {rm:List (Int × Int)} {used:Int} {rg:List Int} {sh:Bool} {im:Nat→Value} {li:Nat→List Int} {pi:Nat→List (Int × Int)} (w:World) (n:Int) (h:RS w0 w s gb ve vr E rm used rg sh im li pi) (hl:(pi 4).length + (li 17).length≤1000)
  (z1 z2 z3 z4 z5 z6 z8 z9 z10 z11 z12 z13 z14 z15 z16 z17 z18 z19 z20 z21 z22 z23 z24 z25 z26 z27 z28 z29 z30 z31 z32 z33 z34 z35 z36 z37 z38 z39 z40 z41 z42 z43 z44 z45 z46 z47 z48 z49 z50 z51 z52 z53 z54 z55 z56 z57 z58 z59 z60 z61 z62 z63 z64 z65 z66 z67 z68:Value) (Q:Exit→Act→World→Prop)
  (hQp:∀ c (a:Act) (d:Tmp) v w,Q (.panic c) (a.put (some d) v) w→Q (.panic c) a w)
  (hQ:∀ (y53 y54 y55 y56 y57 y58 y59 y60 y61 y62 y63 y64 y65 y66 y67 v':Value) (M:List (Int × Int)) (W':World),RS w0 W' s gb ve vr E rm used rg sh (updF im 4 v') li (updF pi 4 M)→PairsOk (pi 4) (li 17) n M→Q .normal { tmps:=(.pointer (some ⟨s,0,none⟩)::z1::z2::z3::z4::z5::z6::.int .i64 n::z8::z9::z10::z11::z12::z13::z14::z15::z16::z17::z18::z19::z20::z21::z22::z23::z24::z25::z26::z27::z28::z29::z30::z31::z32::z33::z34::z35::z36::z37::z38::z39::z40::z41::z42::z43::z44::z45::z46::z47::z48::z49::z50::z51::z52::y53::y54::y55::y56::y57::y58::y59::y60::y61::y62::y63::y64::y65::y66::y67::z68::[]).toArray,defers:=[] } W') :
  Code.wp Try.prog (Code.region 5 rfK2 true) Q { tmps:=(.pointer (some ⟨s,0,none⟩)::z1::z2::z3::z4::z5::z6::.int .i64 n::z8::z9::z10::z11::z12::z13::z14::z15::z16::z17::z18::z19::z20::z21::z22::z23::z24::z25::z26::z27::z28::z29::z30::z31::z32::z33::z34::z35::z36::z37::z38::z39::z40::z41::z42::z43::z44::z45::z46::z47::z48::z49::z50::z51::z52::z53::z54::z55::z56::z57::z58::z59::z60::z61::z62::z63::z64::z65::z66::z67::z68::[]).toArray,defers:=[] } w:=by
 unfold rfK2
 have hB:=h.next (Below.refl _ _).drew
 have c1:w.cell? ⟨s,4,none⟩=some (im 4):=by simp only [World.cell?,h.box]; rfl
 have c2:w.cell? ⟨s,17,none⟩=some (im 17):=by simp only [World.cell?,h.box]; rfl
 have HS:=Lib.hid hB
 have HQ:=Lib.hid hQ
 clear h hB hQ
 refine wp_region_any (by kernel_rfl) ?_
 change wpAny _ _ _ _ _ _ _ (World.drew _)
 have c1:w.drew.cell? ⟨s,4,none⟩=some (im 4):=c1
 have c2:w.drew.cell? ⟨s,17,none⟩=some (im 17):=c2
 generalize World.drew w=W at HS c1 c2 ⊢
 refine wpAny_take (i:=0) (v:=.pointer (some ⟨s,0,none⟩)) rfl (by kernel_rfl) (by kernel_rfl) (by kernel_rfl) (fun c a w=>hQp c a _ _ w) (Or.inl ⟨by rfl,?_⟩) ?_
 ·intro w
  go_simp
 refine wpAny_take (i:=1) (v:=.pointer (some ⟨s,0,none⟩)) rfl (by kernel_rfl) (by kernel_rfl) (by kernel_rfl) (fun c a w=>hQp c a _ _ w) (Or.inl ⟨by rfl,?_⟩) ?_
 ·intro w
  go_simp
 refine wpAny_take (i:=2) (v:=.pointer (some ⟨s,0,none⟩)) rfl (by kernel_rfl) (by kernel_rfl) (by kernel_rfl) (fun c a w=>hQp c a _ _ w) (Or.inl ⟨by rfl,?_⟩) ?_
 ·intro w
  go_simp
 refine wpAny_take (i:=3) (v:=.pointer (some ⟨s,0,none⟩)) rfl (by kernel_rfl) (by kernel_rfl) (by kernel_rfl) (fun c a w=>hQp c a _ _ w) (Or.inl ⟨by rfl,?_⟩) ?_
 ·intro w
  go_simp
 refine wpAny_take (i:=4) (v:=.pointer (some ⟨s,4,none⟩)) rfl (by kernel_rfl) (by kernel_rfl) (by kernel_rfl) (fun c a w=>hQp c a _ _ w) (Or.inl ⟨by rfl,?_⟩) ?_
 ·intro w
  go_simp
 refine wpAny_take (i:=6) (v:=.pointer (some ⟨s,0,none⟩)) rfl (by kernel_rfl) (by kernel_rfl) (by kernel_rfl) (fun c a w=>hQp c a _ _ w) (Or.inl ⟨by rfl,?_⟩) ?_
 ·intro w
  go_simp
 refine wpAny_take (i:=7) (v:=.pointer (some ⟨s,0,none⟩)) rfl (by kernel_rfl) (by kernel_rfl) (by kernel_rfl) (fun c a w=>hQp c a _ _ w) (Or.inl ⟨by rfl,?_⟩) ?_
 ·intro w
  go_simp
 refine wpAny_take (i:=8) (v:=.pointer (some ⟨s,17,none⟩)) rfl (by kernel_rfl) (by kernel_rfl) (by kernel_rfl) (fun c a w=>hQp c a _ _ w) (Or.inl ⟨by rfl,?_⟩) ?_
 ·intro w
  go_simp
 refine wpAny_take (i:=10) (v:=.int .i64 n) rfl (by kernel_rfl) (by kernel_rfl) (by kernel_rfl) (fun c a w=>hQp c a _ _ w) (Or.inl ⟨by rfl,?_⟩) ?_
 ·intro w
  go_simp
 show wpAny _ _ _ _ 7 _ _ _
 refine wpAny_all (rs:=[5,9]) (by kernel_rfl) (by simp) ?_
 intro i hi
 simp only [List.mem_cons,List.not_mem_nil,or_false] at hi
 rcases hi with rfl | rfl
 ·refine wpOp_one (o:=ofK15) (by rfl) rfl ?_
  unfold ofK15
  unfold Oper.wp
  go_simp
  refine wpAny_all (rs:=[9]) (by kernel_rfl) (by simp) ?_
  intro i hi
  simp only [List.mem_singleton] at hi
  subst hi
  refine wpOp_one (o:=ofK16) (by rfl) rfl ?_
  unfold ofK16
  unfold Oper.wp
  go_simp
  refine wpAny_all (rs:=[11]) (by kernel_rfl) (by simp) ?_
  intro i hi
  simp only [List.mem_singleton] at hi
  subst hi
  refine wpOp_one (o:=ofK17) (by rfl) rfl ?_
  unfold ofK17
  unfold Oper.wp
  go_simp
  refine (pairs_any (im 4) (im 17) (pi 4) (li 17) n _ (HS.out.cp 4 (by omega) (by omega)) (HS.out.cl 17 (by omega) (by omega)) hl).mono ?_
  rintro e w2 ⟨⟨v',M,rfl,hv,hp,hn⟩,hb⟩
  dsimp only
  have hS2:=HS.out.next hb
  have ha:Apart w2 s gb ve vr v':=by
   rcases hn with q | q
   ·rw [q]; exact fun b r=>hS2.apt 4 (.inl ⟨by omega,by omega⟩) b r
   ·exact apart_new hv q HS.out.lts HS.out.ltg (fun b r=>(HS.out.oe.lt b r).2) (fun b r=>(HS.out.op.lt b r).2)
  have hF:=hS2.set4 v' M hv ha (HS.out.newAt 4 (by omega) (by omega) hn)
  have k1:w2.cell? ⟨s,4,none⟩=some (im 4):=by simp only [World.cell?,hS2.box]; rfl
  have d1:w2.frozen? ⟨s,4,none⟩=false:=by simp only [World.frozen?,hS2.box]; rfl
  obtain ⟨pa8,pc8,e8⟩:=own_len hv
  subst e8
  clear hv hn hb hS2 ha
  refine wpAny_all (rs:=[12]) (by kernel_rfl) (by simp) ?_
  intro i hi
  simp only [List.mem_singleton] at hi
  subst hi
  refine wpOp_one (o:=ofK18) (by rfl) rfl ?_
  unfold ofK18
  unfold Oper.wp
  go_simp
  refine wpAny_all (rs:=[13]) (by kernel_rfl) (by simp) ?_
  intro i hi
  simp only [List.mem_singleton] at hi
  subst hi
  refine wpOp_one (o:=ofK19) (by rfl) rfl ?_
  unfold ofK19
  unfold Oper.wp
  go_simp
  refine wpAny_all (rs:=[14]) (by kernel_rfl) (by simp) ?_
  intro i hi
  simp only [List.mem_singleton] at hi
  subst hi
  refine wpOp_one (o:=ofK20) (by rfl) rfl ?_
  unfold ofK20
  unfold Oper.wp
  go_simp
  refine wpAny_all (rs:=[15]) (by kernel_rfl) (by simp) ?_
  intro i hi
  simp only [List.mem_singleton] at hi
  subst hi
  refine wpOp_one (o:=ofK21) (by rfl) rfl ?_
  unfold ofK21
  unfold Oper.wp
  go_simp
  refine wpAny_done (by kernel_rfl) ?_ _
  exact HQ.out _ _ _ _ _ _ _ _ _ _ _ _ _ _ _ _ M _ hF hp
 ·refine wpOp_one (o:=ofK16) (by rfl) rfl ?_
  unfold ofK16
  unfold Oper.wp
  go_simp
  refine wpAny_all (rs:=[5]) (by kernel_rfl) (by simp) ?_
  intro i hi
  simp only [List.mem_singleton] at hi
  subst hi
  refine wpOp_one (o:=ofK15) (by rfl) rfl ?_
  unfold ofK15
  unfold Oper.wp
  go_simp
  refine wpAny_all (rs:=[11]) (by kernel_rfl) (by simp) ?_
  intro i hi
  simp only [List.mem_singleton] at hi
  subst hi
  refine wpOp_one (o:=ofK17) (by rfl) rfl ?_
  unfold ofK17
  unfold Oper.wp
  go_simp
  refine (pairs_any (im 4) (im 17) (pi 4) (li 17) n _ (HS.out.cp 4 (by omega) (by omega)) (HS.out.cl 17 (by omega) (by omega)) hl).mono ?_
  rintro e w2 ⟨⟨v',M,rfl,hv,hp,hn⟩,hb⟩
  dsimp only
  have hS2:=HS.out.next hb
  have ha:Apart w2 s gb ve vr v':=by
   rcases hn with q | q
   ·rw [q]; exact fun b r=>hS2.apt 4 (.inl ⟨by omega,by omega⟩) b r
   ·exact apart_new hv q HS.out.lts HS.out.ltg (fun b r=>(HS.out.oe.lt b r).2) (fun b r=>(HS.out.op.lt b r).2)
  have hF:=hS2.set4 v' M hv ha (HS.out.newAt 4 (by omega) (by omega) hn)
  have k1:w2.cell? ⟨s,4,none⟩=some (im 4):=by simp only [World.cell?,hS2.box]; rfl
  have d1:w2.frozen? ⟨s,4,none⟩=false:=by simp only [World.frozen?,hS2.box]; rfl
  obtain ⟨pa8,pc8,e8⟩:=own_len hv
  subst e8
  clear hv hn hb hS2 ha
  refine wpAny_all (rs:=[12]) (by kernel_rfl) (by simp) ?_
  intro i hi
  simp only [List.mem_singleton] at hi
  subst hi
  refine wpOp_one (o:=ofK18) (by rfl) rfl ?_
  unfold ofK18
  unfold Oper.wp
  go_simp
  refine wpAny_all (rs:=[13]) (by kernel_rfl) (by simp) ?_
  intro i hi
  simp only [List.mem_singleton] at hi
  subst hi
  refine wpOp_one (o:=ofK19) (by rfl) rfl ?_
  unfold ofK19
  unfold Oper.wp
  go_simp
  refine wpAny_all (rs:=[14]) (by kernel_rfl) (by simp) ?_
  intro i hi
  simp only [List.mem_singleton] at hi
  subst hi
  refine wpOp_one (o:=ofK20) (by rfl) rfl ?_
  unfold ofK20
  unfold Oper.wp
  go_simp
  refine wpAny_all (rs:=[15]) (by kernel_rfl) (by simp) ?_
  intro i hi
  simp only [List.mem_singleton] at hi
  subst hi
  refine wpOp_one (o:=ofK21) (by rfl) rfl ?_
  unfold ofK21
  unfold Oper.wp
  go_simp
  refine wpAny_done (by kernel_rfl) ?_ _
  exact HQ.out _ _ _ _ _ _ _ _ _ _ _ _ _ _ _ _ M _ hF hp
end Go.Proofs.Yteghpophcnehgaa
