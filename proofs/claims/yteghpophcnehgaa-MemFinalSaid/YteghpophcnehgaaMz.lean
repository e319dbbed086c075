/-
  What the functions that the law reaches do, one by one: contracts. Conditions: those that each of them prints.
-/
import Derived.Test.YteghpophcnehgaaMr
import Derived.WalkKit
import Derived.Deep.RegionLaw
namespace Go.Proofs.Yteghpophcnehgaa
open Go.RowKit ExprA SndA
def ogA0:Oper:={ dst:=some 54,op:=Op.load 3 (Operand.tmp 53),type:=3,pos := "ref.go:31", after:=#[{ on:=0,ground:=Ground.data }],guard:=none }
def ogA1:Oper:={ dst:=some 56,op:=Op.load 3 (Operand.tmp 55),type:=3,pos := "ref.go:31", after:=#[{ on:=2,ground:=Ground.data },{ on:=7,ground:=Ground.gcOnly Departure.lateStores }],guard:=none }
def ogA2:Oper:={ dst:=some 58,op:=Op.load 3 (Operand.tmp 57),type:=3,pos := "ref.go:31", after:=#[{ on:=4,ground:=Ground.data },{ on:=9,ground:=Ground.gcOnly Departure.lateStores }],guard:=none }
def ogA3:Oper:={ dst:=some 59,op:=Op.fieldAddr 47 (Operand.tmp 10) 3,type:=0,pos := "ref.go:31", after:=#[{ on:=0,ground:=Ground.phase },{ on:=1,ground:=Ground.phase },{ on:=2,ground:=Ground.textOnly Departure.lateStores },{ on:=3,ground:=Ground.textOnly Departure.lateStores },{ on:=4,ground:=Ground.textOnly Departure.lateStores },{ on:=5,ground:=Ground.textOnly Departure.lateStores }],guard:=none }
def ogA4:Oper:={ dst:=none,op:=Op.store 3 (Operand.tmp 59) (Operand.tmp 54),type:=0,pos := "ref.go:31", after:=#[{ on:=6,ground:=Ground.data },{ on:=1,ground:=Ground.data },{ on:=0,ground:=Ground.phase },{ on:=1,ground:=Ground.phase },{ on:=2,ground:=Ground.textOnly Departure.lateStores },{ on:=3,ground:=Ground.textOnly Departure.lateStores },{ on:=4,ground:=Ground.textOnly Departure.lateStores },{ on:=5,ground:=Ground.textOnly Departure.lateStores }],guard:=none }
def ogA5:Oper:={ dst:=some 60,op:=Op.fieldAddr 47 (Operand.tmp 10) 4,type:=0,pos := "ref.go:31", after:=#[{ on:=0,ground:=Ground.phase },{ on:=1,ground:=Ground.phase },{ on:=2,ground:=Ground.phase },{ on:=3,ground:=Ground.phase },{ on:=4,ground:=Ground.textOnly Departure.lateStores },{ on:=5,ground:=Ground.textOnly Departure.lateStores },{ on:=6,ground:=Ground.phase },{ on:=7,ground:=Ground.phase }],guard:=none }
def ogA6:Oper:={ dst:=none,op:=Op.store 3 (Operand.tmp 60) (Operand.tmp 56),type:=0,pos := "ref.go:31", after:=#[{ on:=8,ground:=Ground.data },{ on:=3,ground:=Ground.data },{ on:=7,ground:=Ground.chain },{ on:=0,ground:=Ground.phase },{ on:=1,ground:=Ground.phase },{ on:=2,ground:=Ground.phase },{ on:=3,ground:=Ground.phase },{ on:=4,ground:=Ground.textOnly Departure.lateStores },{ on:=5,ground:=Ground.textOnly Departure.lateStores },{ on:=6,ground:=Ground.phase },{ on:=7,ground:=Ground.phase }],guard:=none }
def ogA7:Oper:={ dst:=some 61,op:=Op.fieldAddr 47 (Operand.tmp 10) 1,type:=0,pos := "ref.go:31", after:=#[{ on:=0,ground:=Ground.phase },{ on:=1,ground:=Ground.phase },{ on:=2,ground:=Ground.phase },{ on:=3,ground:=Ground.phase },{ on:=4,ground:=Ground.phase },{ on:=5,ground:=Ground.phase },{ on:=6,ground:=Ground.phase },{ on:=7,ground:=Ground.phase },{ on:=8,ground:=Ground.phase },{ on:=9,ground:=Ground.phase }],guard:=none }
def ogA8:Oper:={ dst:=none,op:=Op.store 3 (Operand.tmp 61) (Operand.tmp 58),type:=0,pos := "ref.go:31", after:=#[{ on:=10,ground:=Ground.data },{ on:=5,ground:=Ground.data },{ on:=9,ground:=Ground.chain },{ on:=0,ground:=Ground.phase },{ on:=1,ground:=Ground.phase },{ on:=2,ground:=Ground.phase },{ on:=3,ground:=Ground.phase },{ on:=4,ground:=Ground.phase },{ on:=5,ground:=Ground.phase },{ on:=6,ground:=Ground.phase },{ on:=7,ground:=Ground.phase },{ on:=8,ground:=Ground.phase },{ on:=9,ground:=Ground.phase }],guard:=none }
def ogA9:Oper:={ dst:=some 79,op:=Op.load 3 (Operand.tmp 78),type:=3,pos := "ref.go:34", after:=#[{ on:=0,ground:=Ground.data }],guard:=none }
def ogA10:Oper:={ dst:=some 81,op:=Op.load 3 (Operand.tmp 80),type:=3,pos := "ref.go:34", after:=#[{ on:=2,ground:=Ground.data },{ on:=7,ground:=Ground.gcOnly Departure.lateStores }],guard:=none }
def ogA11:Oper:={ dst:=some 83,op:=Op.load 45 (Operand.tmp 82),type:=45,pos := "ref.go:34", after:=#[{ on:=4,ground:=Ground.data },{ on:=9,ground:=Ground.gcOnly Departure.lateStores }],guard:=none }
def ogA12:Oper:={ dst:=some 84,op:=Op.fieldAddr 47 (Operand.tmp 10) 4,type:=0,pos := "ref.go:34", after:=#[{ on:=0,ground:=Ground.phase },{ on:=1,ground:=Ground.phase },{ on:=2,ground:=Ground.textOnly Departure.lateStores },{ on:=3,ground:=Ground.textOnly Departure.lateStores },{ on:=4,ground:=Ground.textOnly Departure.lateStores },{ on:=5,ground:=Ground.textOnly Departure.lateStores }],guard:=none }
def ogA13:Oper:={ dst:=none,op:=Op.store 3 (Operand.tmp 84) (Operand.tmp 79),type:=0,pos := "ref.go:34", after:=#[{ on:=6,ground:=Ground.data },{ on:=1,ground:=Ground.data },{ on:=0,ground:=Ground.phase },{ on:=1,ground:=Ground.phase },{ on:=2,ground:=Ground.textOnly Departure.lateStores },{ on:=3,ground:=Ground.textOnly Departure.lateStores },{ on:=4,ground:=Ground.textOnly Departure.lateStores },{ on:=5,ground:=Ground.textOnly Departure.lateStores }],guard:=none }
def ogA14:Oper:={ dst:=some 85,op:=Op.fieldAddr 47 (Operand.tmp 10) 1,type:=0,pos := "ref.go:34", after:=#[{ on:=0,ground:=Ground.phase },{ on:=1,ground:=Ground.phase },{ on:=2,ground:=Ground.phase },{ on:=3,ground:=Ground.phase },{ on:=4,ground:=Ground.textOnly Departure.lateStores },{ on:=5,ground:=Ground.textOnly Departure.lateStores },{ on:=6,ground:=Ground.phase },{ on:=7,ground:=Ground.phase }],guard:=none }
def ogA15:Oper:={ dst:=none,op:=Op.store 3 (Operand.tmp 85) (Operand.tmp 81),type:=0,pos := "ref.go:34", after:=#[{ on:=8,ground:=Ground.data },{ on:=3,ground:=Ground.data },{ on:=7,ground:=Ground.chain },{ on:=0,ground:=Ground.phase },{ on:=1,ground:=Ground.phase },{ on:=2,ground:=Ground.phase },{ on:=3,ground:=Ground.phase },{ on:=4,ground:=Ground.textOnly Departure.lateStores },{ on:=5,ground:=Ground.textOnly Departure.lateStores },{ on:=6,ground:=Ground.phase },{ on:=7,ground:=Ground.phase }],guard:=none }
def ogA16:Oper:={ dst:=some 86,op:=Op.fieldAddr 47 (Operand.tmp 10) 5,type:=0,pos := "ref.go:34", after:=#[{ on:=0,ground:=Ground.phase },{ on:=1,ground:=Ground.phase },{ on:=2,ground:=Ground.phase },{ on:=3,ground:=Ground.phase },{ on:=4,ground:=Ground.phase },{ on:=5,ground:=Ground.phase },{ on:=6,ground:=Ground.phase },{ on:=7,ground:=Ground.phase },{ on:=8,ground:=Ground.phase },{ on:=9,ground:=Ground.phase }],guard:=none }
def ogA17:Oper:={ dst:=none,op:=Op.store 45 (Operand.tmp 86) (Operand.tmp 83),type:=0,pos := "ref.go:34", after:=#[{ on:=10,ground:=Ground.data },{ on:=5,ground:=Ground.data },{ on:=9,ground:=Ground.chain },{ on:=0,ground:=Ground.phase },{ on:=1,ground:=Ground.phase },{ on:=2,ground:=Ground.phase },{ on:=3,ground:=Ground.phase },{ on:=4,ground:=Ground.phase },{ on:=5,ground:=Ground.phase },{ on:=6,ground:=Ground.phase },{ on:=7,ground:=Ground.phase },{ on:=8,ground:=Ground.phase },{ on:=9,ground:=Ground.phase }],guard:=none }
def ogA18:Oper:={ dst:=some 144,op:=Op.load 3 (Operand.tmp 143),type:=3,pos := "ref.go:40", after:=#[{ on:=0,ground:=Ground.data }],guard:=none }
def ogA19:Oper:={ dst:=some 146,op:=Op.load 3 (Operand.tmp 145),type:=3,pos := "ref.go:40", after:=#[{ on:=2,ground:=Ground.data },{ on:=11,ground:=Ground.gcOnly Departure.lateStores }],guard:=none }
def ogA20:Oper:={ dst:=some 148,op:=Op.load 3 (Operand.tmp 147),type:=3,pos := "ref.go:40", after:=#[{ on:=4,ground:=Ground.data },{ on:=13,ground:=Ground.gcOnly Departure.lateStores }],guard:=none }
def ogA21:Oper:={ dst:=some 150,op:=Op.load 3 (Operand.tmp 149),type:=3,pos := "ref.go:40", after:=#[{ on:=6,ground:=Ground.data },{ on:=15,ground:=Ground.gcOnly Departure.lateStores }],guard:=none }
def ogA22:Oper:={ dst:=some 152,op:=Op.load 45 (Operand.tmp 151),type:=45,pos := "ref.go:40", after:=#[{ on:=8,ground:=Ground.data },{ on:=17,ground:=Ground.gcOnly Departure.lateStores }],guard:=none }
def ogA23:Oper:={ dst:=some 153,op:=Op.fieldAddr 47 (Operand.tmp 10) 3,type:=0,pos := "ref.go:40", after:=#[{ on:=0,ground:=Ground.phase },{ on:=1,ground:=Ground.phase },{ on:=2,ground:=Ground.textOnly Departure.lateStores },{ on:=3,ground:=Ground.textOnly Departure.lateStores },{ on:=4,ground:=Ground.textOnly Departure.lateStores },{ on:=5,ground:=Ground.textOnly Departure.lateStores },{ on:=6,ground:=Ground.textOnly Departure.lateStores },{ on:=7,ground:=Ground.textOnly Departure.lateStores },{ on:=8,ground:=Ground.textOnly Departure.lateStores },{ on:=9,ground:=Ground.textOnly Departure.lateStores }],guard:=none }
def ogA24:Oper:={ dst:=none,op:=Op.store 3 (Operand.tmp 153) (Operand.tmp 144),type:=0,pos := "ref.go:40", after:=#[{ on:=10,ground:=Ground.data },{ on:=1,ground:=Ground.data },{ on:=0,ground:=Ground.phase },{ on:=1,ground:=Ground.phase },{ on:=2,ground:=Ground.textOnly Departure.lateStores },{ on:=3,ground:=Ground.textOnly Departure.lateStores },{ on:=4,ground:=Ground.textOnly Departure.lateStores },{ on:=5,ground:=Ground.textOnly Departure.lateStores },{ on:=6,ground:=Ground.textOnly Departure.lateStores },{ on:=7,ground:=Ground.textOnly Departure.lateStores },{ on:=8,ground:=Ground.textOnly Departure.lateStores },{ on:=9,ground:=Ground.textOnly Departure.lateStores }],guard:=none }
def ogA25:Oper:={ dst:=some 154,op:=Op.fieldAddr 47 (Operand.tmp 10) 4,type:=0,pos := "ref.go:40", after:=#[{ on:=0,ground:=Ground.phase },{ on:=1,ground:=Ground.phase },{ on:=2,ground:=Ground.phase },{ on:=3,ground:=Ground.phase },{ on:=4,ground:=Ground.textOnly Departure.lateStores },{ on:=5,ground:=Ground.textOnly Departure.lateStores },{ on:=6,ground:=Ground.textOnly Departure.lateStores },{ on:=7,ground:=Ground.textOnly Departure.lateStores },{ on:=8,ground:=Ground.textOnly Departure.lateStores },{ on:=9,ground:=Ground.textOnly Departure.lateStores },{ on:=10,ground:=Ground.phase },{ on:=11,ground:=Ground.phase }],guard:=none }
def ogA26:Oper:={ dst:=none,op:=Op.store 3 (Operand.tmp 154) (Operand.tmp 146),type:=0,pos := "ref.go:40", after:=#[{ on:=12,ground:=Ground.data },{ on:=3,ground:=Ground.data },{ on:=11,ground:=Ground.chain },{ on:=0,ground:=Ground.phase },{ on:=1,ground:=Ground.phase },{ on:=2,ground:=Ground.phase },{ on:=3,ground:=Ground.phase },{ on:=4,ground:=Ground.textOnly Departure.lateStores },{ on:=5,ground:=Ground.textOnly Departure.lateStores },{ on:=6,ground:=Ground.textOnly Departure.lateStores },{ on:=7,ground:=Ground.textOnly Departure.lateStores },{ on:=8,ground:=Ground.textOnly Departure.lateStores },{ on:=9,ground:=Ground.textOnly Departure.lateStores },{ on:=10,ground:=Ground.phase },{ on:=11,ground:=Ground.phase }],guard:=none }
def ogA27:Oper:={ dst:=some 155,op:=Op.fieldAddr 47 (Operand.tmp 10) 1,type:=0,pos := "ref.go:40", after:=#[{ on:=0,ground:=Ground.phase },{ on:=1,ground:=Ground.phase },{ on:=2,ground:=Ground.phase },{ on:=3,ground:=Ground.phase },{ on:=4,ground:=Ground.phase },{ on:=5,ground:=Ground.phase },{ on:=6,ground:=Ground.textOnly Departure.lateStores },{ on:=7,ground:=Ground.textOnly Departure.lateStores },{ on:=8,ground:=Ground.textOnly Departure.lateStores },{ on:=9,ground:=Ground.textOnly Departure.lateStores },{ on:=10,ground:=Ground.phase },{ on:=11,ground:=Ground.phase },{ on:=12,ground:=Ground.phase },{ on:=13,ground:=Ground.phase }],guard:=none }
def ogA28:Oper:={ dst:=none,op:=Op.store 3 (Operand.tmp 155) (Operand.tmp 148),type:=0,pos := "ref.go:40", after:=#[{ on:=14,ground:=Ground.data },{ on:=5,ground:=Ground.data },{ on:=13,ground:=Ground.chain },{ on:=0,ground:=Ground.phase },{ on:=1,ground:=Ground.phase },{ on:=2,ground:=Ground.phase },{ on:=3,ground:=Ground.phase },{ on:=4,ground:=Ground.phase },{ on:=5,ground:=Ground.phase },{ on:=6,ground:=Ground.textOnly Departure.lateStores },{ on:=7,ground:=Ground.textOnly Departure.lateStores },{ on:=8,ground:=Ground.textOnly Departure.lateStores },{ on:=9,ground:=Ground.textOnly Departure.lateStores },{ on:=10,ground:=Ground.phase },{ on:=11,ground:=Ground.phase },{ on:=12,ground:=Ground.phase },{ on:=13,ground:=Ground.phase }],guard:=none }
def ogA29:Oper:={ dst:=some 156,op:=Op.fieldAddr 47 (Operand.tmp 10) 2,type:=0,pos := "ref.go:40", after:=#[{ on:=0,ground:=Ground.phase },{ on:=1,ground:=Ground.phase },{ on:=2,ground:=Ground.phase },{ on:=3,ground:=Ground.phase },{ on:=4,ground:=Ground.phase },{ on:=5,ground:=Ground.phase },{ on:=6,ground:=Ground.phase },{ on:=7,ground:=Ground.phase },{ on:=8,ground:=Ground.textOnly Departure.lateStores },{ on:=9,ground:=Ground.textOnly Departure.lateStores },{ on:=10,ground:=Ground.phase },{ on:=11,ground:=Ground.phase },{ on:=12,ground:=Ground.phase },{ on:=13,ground:=Ground.phase },{ on:=14,ground:=Ground.phase },{ on:=15,ground:=Ground.phase }],guard:=none }
def ogA30:Oper:={ dst:=none,op:=Op.store 3 (Operand.tmp 156) (Operand.tmp 150),type:=0,pos := "ref.go:40", after:=#[{ on:=16,ground:=Ground.data },{ on:=7,ground:=Ground.data },{ on:=15,ground:=Ground.chain },{ on:=0,ground:=Ground.phase },{ on:=1,ground:=Ground.phase },{ on:=2,ground:=Ground.phase },{ on:=3,ground:=Ground.phase },{ on:=4,ground:=Ground.phase },{ on:=5,ground:=Ground.phase },{ on:=6,ground:=Ground.phase },{ on:=7,ground:=Ground.phase },{ on:=8,ground:=Ground.textOnly Departure.lateStores },{ on:=9,ground:=Ground.textOnly Departure.lateStores },{ on:=10,ground:=Ground.phase },{ on:=11,ground:=Ground.phase },{ on:=12,ground:=Ground.phase },{ on:=13,ground:=Ground.phase },{ on:=14,ground:=Ground.phase },{ on:=15,ground:=Ground.phase }],guard:=none }
def ogA31:Oper:={ dst:=some 157,op:=Op.fieldAddr 47 (Operand.tmp 10) 5,type:=0,pos := "ref.go:40", after:=#[{ on:=0,ground:=Ground.phase },{ on:=1,ground:=Ground.phase },{ on:=2,ground:=Ground.phase },{ on:=3,ground:=Ground.phase },{ on:=4,ground:=Ground.phase },{ on:=5,ground:=Ground.phase },{ on:=6,ground:=Ground.phase },{ on:=7,ground:=Ground.phase },{ on:=8,ground:=Ground.phase },{ on:=9,ground:=Ground.phase },{ on:=10,ground:=Ground.phase },{ on:=11,ground:=Ground.phase },{ on:=12,ground:=Ground.phase },{ on:=13,ground:=Ground.phase },{ on:=14,ground:=Ground.phase },{ on:=15,ground:=Ground.phase },{ on:=16,ground:=Ground.phase },{ on:=17,ground:=Ground.phase }],guard:=none }
def ogA32:Oper:={ dst:=none,op:=Op.store 45 (Operand.tmp 157) (Operand.tmp 152),type:=0,pos := "ref.go:40", after:=#[{ on:=18,ground:=Ground.data },{ on:=9,ground:=Ground.data },{ on:=17,ground:=Ground.chain },{ on:=0,ground:=Ground.phase },{ on:=1,ground:=Ground.phase },{ on:=2,ground:=Ground.phase },{ on:=3,ground:=Ground.phase },{ on:=4,ground:=Ground.phase },{ on:=5,ground:=Ground.phase },{ on:=6,ground:=Ground.phase },{ on:=7,ground:=Ground.phase },{ on:=8,ground:=Ground.phase },{ on:=9,ground:=Ground.phase },{ on:=10,ground:=Ground.phase },{ on:=11,ground:=Ground.phase },{ on:=12,ground:=Ground.phase },{ on:=13,ground:=Ground.phase },{ on:=14,ground:=Ground.phase },{ on:=15,ground:=Ground.phase },{ on:=16,ground:=Ground.phase },{ on:=17,ground:=Ground.phase }],guard:=none }
def ogA33:Oper:={ dst:=some 165,op:=Op.load 3 (Operand.tmp 164),type:=3,pos := "ref.go:43", after:=#[{ on:=0,ground:=Ground.data }],guard:=none }
def ogA34:Oper:={ dst:=some 167,op:=Op.load 45 (Operand.tmp 166),type:=45,pos := "ref.go:43", after:=#[{ on:=2,ground:=Ground.data },{ on:=5,ground:=Ground.gcOnly Departure.lateStores }],guard:=none }
def ogA35:Oper:={ dst:=some 168,op:=Op.fieldAddr 47 (Operand.tmp 10) 3,type:=0,pos := "ref.go:43", after:=#[{ on:=0,ground:=Ground.phase },{ on:=1,ground:=Ground.phase },{ on:=2,ground:=Ground.textOnly Departure.lateStores },{ on:=3,ground:=Ground.textOnly Departure.lateStores }],guard:=none }
def ogA36:Oper:={ dst:=none,op:=Op.store 3 (Operand.tmp 168) (Operand.tmp 165),type:=0,pos := "ref.go:43", after:=#[{ on:=4,ground:=Ground.data },{ on:=1,ground:=Ground.data },{ on:=0,ground:=Ground.phase },{ on:=1,ground:=Ground.phase },{ on:=2,ground:=Ground.textOnly Departure.lateStores },{ on:=3,ground:=Ground.textOnly Departure.lateStores }],guard:=none }
def ogA37:Oper:={ dst:=some 169,op:=Op.fieldAddr 47 (Operand.tmp 10) 5,type:=0,pos := "ref.go:43", after:=#[{ on:=0,ground:=Ground.phase },{ on:=1,ground:=Ground.phase },{ on:=2,ground:=Ground.phase },{ on:=3,ground:=Ground.phase },{ on:=4,ground:=Ground.phase },{ on:=5,ground:=Ground.phase }],guard:=none }
def ogA38:Oper:={ dst:=none,op:=Op.store 45 (Operand.tmp 169) (Operand.tmp 167),type:=0,pos := "ref.go:43", after:=#[{ on:=6,ground:=Ground.data },{ on:=3,ground:=Ground.data },{ on:=5,ground:=Ground.chain },{ on:=0,ground:=Ground.phase },{ on:=1,ground:=Ground.phase },{ on:=2,ground:=Ground.phase },{ on:=3,ground:=Ground.phase },{ on:=4,ground:=Ground.phase },{ on:=5,ground:=Ground.phase }],guard:=none }
def ogA39:Oper:={ dst:=some 185,op:=Op.load 3 (Operand.tmp 184),type:=3,pos := "ref.go:46", after:=#[{ on:=0,ground:=Ground.data }],guard:=none }
def ogA40:Oper:={ dst:=some 187,op:=Op.load 45 (Operand.tmp 186),type:=45,pos := "ref.go:46", after:=#[{ on:=2,ground:=Ground.data },{ on:=5,ground:=Ground.gcOnly Departure.lateStores }],guard:=none }
def ogA41:Oper:={ dst:=some 188,op:=Op.fieldAddr 47 (Operand.tmp 10) 6,type:=0,pos := "ref.go:46", after:=#[{ on:=0,ground:=Ground.phase },{ on:=1,ground:=Ground.phase },{ on:=2,ground:=Ground.textOnly Departure.lateStores },{ on:=3,ground:=Ground.textOnly Departure.lateStores }],guard:=none }
def ogA42:Oper:={ dst:=none,op:=Op.store 3 (Operand.tmp 188) (Operand.tmp 185),type:=0,pos := "ref.go:46", after:=#[{ on:=4,ground:=Ground.data },{ on:=1,ground:=Ground.data },{ on:=0,ground:=Ground.phase },{ on:=1,ground:=Ground.phase },{ on:=2,ground:=Ground.textOnly Departure.lateStores },{ on:=3,ground:=Ground.textOnly Departure.lateStores }],guard:=none }
def ogA43:Oper:={ dst:=some 189,op:=Op.fieldAddr 47 (Operand.tmp 10) 5,type:=0,pos := "ref.go:46", after:=#[{ on:=0,ground:=Ground.phase },{ on:=1,ground:=Ground.phase },{ on:=2,ground:=Ground.phase },{ on:=3,ground:=Ground.phase },{ on:=4,ground:=Ground.phase },{ on:=5,ground:=Ground.phase }],guard:=none }
def ogA44:Oper:={ dst:=none,op:=Op.store 45 (Operand.tmp 189) (Operand.tmp 187),type:=0,pos := "ref.go:46", after:=#[{ on:=6,ground:=Ground.data },{ on:=3,ground:=Ground.data },{ on:=5,ground:=Ground.chain },{ on:=0,ground:=Ground.phase },{ on:=1,ground:=Ground.phase },{ on:=2,ground:=Ground.phase },{ on:=3,ground:=Ground.phase },{ on:=4,ground:=Ground.phase },{ on:=5,ground:=Ground.phase }],guard:=none }
def rgA0:Array Oper:=#[{ dst:=some 53,op:=Op.fieldAddr 47 (Operand.tmp 3) 3,type:=0,pos := "ref.go:31", after:=#[],guard:=none },{ dst:=some 54,op:=Op.load 3 (Operand.tmp 53),type:=3,pos := "ref.go:31", after:=#[{ on:=0,ground:=Ground.data }],guard:=none },{ dst:=some 55,op:=Op.fieldAddr 47 (Operand.tmp 3) 4,type:=0,pos := "ref.go:31", after:=#[{ on:=7,ground:=Ground.gcOnly Departure.lateStores }],guard:=none },{ dst:=some 56,op:=Op.load 3 (Operand.tmp 55),type:=3,pos := "ref.go:31", after:=#[{ on:=2,ground:=Ground.data },{ on:=7,ground:=Ground.gcOnly Departure.lateStores }],guard:=none },{ dst:=some 57,op:=Op.fieldAddr 47 (Operand.tmp 3) 1,type:=0,pos := "ref.go:31", after:=#[{ on:=9,ground:=Ground.gcOnly Departure.lateStores }],guard:=none },{ dst:=some 58,op:=Op.load 3 (Operand.tmp 57),type:=3,pos := "ref.go:31", after:=#[{ on:=4,ground:=Ground.data },{ on:=9,ground:=Ground.gcOnly Departure.lateStores }],guard:=none },{ dst:=some 59,op:=Op.fieldAddr 47 (Operand.tmp 10) 3,type:=0,pos := "ref.go:31", after:=#[{ on:=0,ground:=Ground.phase },{ on:=1,ground:=Ground.phase },{ on:=2,ground:=Ground.textOnly Departure.lateStores },{ on:=3,ground:=Ground.textOnly Departure.lateStores },{ on:=4,ground:=Ground.textOnly Departure.lateStores },{ on:=5,ground:=Ground.textOnly Departure.lateStores }],guard:=none },{ dst:=none,op:=Op.store 3 (Operand.tmp 59) (Operand.tmp 54),type:=0,pos := "ref.go:31", after:=#[{ on:=6,ground:=Ground.data },{ on:=1,ground:=Ground.data },{ on:=0,ground:=Ground.phase },{ on:=1,ground:=Ground.phase },{ on:=2,ground:=Ground.textOnly Departure.lateStores },{ on:=3,ground:=Ground.textOnly Departure.lateStores },{ on:=4,ground:=Ground.textOnly Departure.lateStores },{ on:=5,ground:=Ground.textOnly Departure.lateStores }],guard:=none },{ dst:=some 60,op:=Op.fieldAddr 47 (Operand.tmp 10) 4,type:=0,pos := "ref.go:31", after:=#[{ on:=0,ground:=Ground.phase },{ on:=1,ground:=Ground.phase },{ on:=2,ground:=Ground.phase },{ on:=3,ground:=Ground.phase },{ on:=4,ground:=Ground.textOnly Departure.lateStores },{ on:=5,ground:=Ground.textOnly Departure.lateStores },{ on:=6,ground:=Ground.phase },{ on:=7,ground:=Ground.phase }],guard:=none },{ dst:=none,op:=Op.store 3 (Operand.tmp 60) (Operand.tmp 56),type:=0,pos := "ref.go:31", after:=#[{ on:=8,ground:=Ground.data },{ on:=3,ground:=Ground.data },{ on:=7,ground:=Ground.chain },{ on:=0,ground:=Ground.phase },{ on:=1,ground:=Ground.phase },{ on:=2,ground:=Ground.phase },{ on:=3,ground:=Ground.phase },{ on:=4,ground:=Ground.textOnly Departure.lateStores },{ on:=5,ground:=Ground.textOnly Departure.lateStores },{ on:=6,ground:=Ground.phase },{ on:=7,ground:=Ground.phase }],guard:=none },{ dst:=some 61,op:=Op.fieldAddr 47 (Operand.tmp 10) 1,type:=0,pos := "ref.go:31", after:=#[{ on:=0,ground:=Ground.phase },{ on:=1,ground:=Ground.phase },{ on:=2,ground:=Ground.phase },{ on:=3,ground:=Ground.phase },{ on:=4,ground:=Ground.phase },{ on:=5,ground:=Ground.phase },{ on:=6,ground:=Ground.phase },{ on:=7,ground:=Ground.phase },{ on:=8,ground:=Ground.phase },{ on:=9,ground:=Ground.phase }],guard:=none },{ dst:=none,op:=Op.store 3 (Operand.tmp 61) (Operand.tmp 58),type:=0,pos := "ref.go:31", after:=#[{ on:=10,ground:=Ground.data },{ on:=5,ground:=Ground.data },{ on:=9,ground:=Ground.chain },{ on:=0,ground:=Ground.phase },{ on:=1,ground:=Ground.phase },{ on:=2,ground:=Ground.phase },{ on:=3,ground:=Ground.phase },{ on:=4,ground:=Ground.phase },{ on:=5,ground:=Ground.phase },{ on:=6,ground:=Ground.phase },{ on:=7,ground:=Ground.phase },{ on:=8,ground:=Ground.phase },{ on:=9,ground:=Ground.phase }],guard:=none }]
def rgA1:Array Oper:=#[{ dst:=some 78,op:=Op.fieldAddr 47 (Operand.tmp 3) 4,type:=0,pos := "ref.go:34", after:=#[],guard:=none },{ dst:=some 79,op:=Op.load 3 (Operand.tmp 78),type:=3,pos := "ref.go:34", after:=#[{ on:=0,ground:=Ground.data }],guard:=none },{ dst:=some 80,op:=Op.fieldAddr 47 (Operand.tmp 3) 1,type:=0,pos := "ref.go:34", after:=#[{ on:=7,ground:=Ground.gcOnly Departure.lateStores }],guard:=none },{ dst:=some 81,op:=Op.load 3 (Operand.tmp 80),type:=3,pos := "ref.go:34", after:=#[{ on:=2,ground:=Ground.data },{ on:=7,ground:=Ground.gcOnly Departure.lateStores }],guard:=none },{ dst:=some 82,op:=Op.fieldAddr 47 (Operand.tmp 3) 5,type:=0,pos := "ref.go:34", after:=#[{ on:=9,ground:=Ground.gcOnly Departure.lateStores }],guard:=none },{ dst:=some 83,op:=Op.load 45 (Operand.tmp 82),type:=45,pos := "ref.go:34", after:=#[{ on:=4,ground:=Ground.data },{ on:=9,ground:=Ground.gcOnly Departure.lateStores }],guard:=none },{ dst:=some 84,op:=Op.fieldAddr 47 (Operand.tmp 10) 4,type:=0,pos := "ref.go:34", after:=#[{ on:=0,ground:=Ground.phase },{ on:=1,ground:=Ground.phase },{ on:=2,ground:=Ground.textOnly Departure.lateStores },{ on:=3,ground:=Ground.textOnly Departure.lateStores },{ on:=4,ground:=Ground.textOnly Departure.lateStores },{ on:=5,ground:=Ground.textOnly Departure.lateStores }],guard:=none },{ dst:=none,op:=Op.store 3 (Operand.tmp 84) (Operand.tmp 79),type:=0,pos := "ref.go:34", after:=#[{ on:=6,ground:=Ground.data },{ on:=1,ground:=Ground.data },{ on:=0,ground:=Ground.phase },{ on:=1,ground:=Ground.phase },{ on:=2,ground:=Ground.textOnly Departure.lateStores },{ on:=3,ground:=Ground.textOnly Departure.lateStores },{ on:=4,ground:=Ground.textOnly Departure.lateStores },{ on:=5,ground:=Ground.textOnly Departure.lateStores }],guard:=none },{ dst:=some 85,op:=Op.fieldAddr 47 (Operand.tmp 10) 1,type:=0,pos := "ref.go:34", after:=#[{ on:=0,ground:=Ground.phase },{ on:=1,ground:=Ground.phase },{ on:=2,ground:=Ground.phase },{ on:=3,ground:=Ground.phase },{ on:=4,ground:=Ground.textOnly Departure.lateStores },{ on:=5,ground:=Ground.textOnly Departure.lateStores },{ on:=6,ground:=Ground.phase },{ on:=7,ground:=Ground.phase }],guard:=none },{ dst:=none,op:=Op.store 3 (Operand.tmp 85) (Operand.tmp 81),type:=0,pos := "ref.go:34", after:=#[{ on:=8,ground:=Ground.data },{ on:=3,ground:=Ground.data },{ on:=7,ground:=Ground.chain },{ on:=0,ground:=Ground.phase },{ on:=1,ground:=Ground.phase },{ on:=2,ground:=Ground.phase },{ on:=3,ground:=Ground.phase },{ on:=4,ground:=Ground.textOnly Departure.lateStores },{ on:=5,ground:=Ground.textOnly Departure.lateStores },{ on:=6,ground:=Ground.phase },{ on:=7,ground:=Ground.phase }],guard:=none },{ dst:=some 86,op:=Op.fieldAddr 47 (Operand.tmp 10) 5,type:=0,pos := "ref.go:34", after:=#[{ on:=0,ground:=Ground.phase },{ on:=1,ground:=Ground.phase },{ on:=2,ground:=Ground.phase },{ on:=3,ground:=Ground.phase },{ on:=4,ground:=Ground.phase },{ on:=5,ground:=Ground.phase },{ on:=6,ground:=Ground.phase },{ on:=7,ground:=Ground.phase },{ on:=8,ground:=Ground.phase },{ on:=9,ground:=Ground.phase }],guard:=none },{ dst:=none,op:=Op.store 45 (Operand.tmp 86) (Operand.tmp 83),type:=0,pos := "ref.go:34", after:=#[{ on:=10,ground:=Ground.data },{ on:=5,ground:=Ground.data },{ on:=9,ground:=Ground.chain },{ on:=0,ground:=Ground.phase },{ on:=1,ground:=Ground.phase },{ on:=2,ground:=Ground.phase },{ on:=3,ground:=Ground.phase },{ on:=4,ground:=Ground.phase },{ on:=5,ground:=Ground.phase },{ on:=6,ground:=Ground.phase },{ on:=7,ground:=Ground.phase },{ on:=8,ground:=Ground.phase },{ on:=9,ground:=Ground.phase }],guard:=none }]
def rgA2:Array Oper:=#[{ dst:=some 143,op:=Op.fieldAddr 47 (Operand.tmp 3) 3,type:=0,pos := "ref.go:40", after:=#[],guard:=none },{ dst:=some 144,op:=Op.load 3 (Operand.tmp 143),type:=3,pos := "ref.go:40", after:=#[{ on:=0,ground:=Ground.data }],guard:=none },{ dst:=some 145,op:=Op.fieldAddr 47 (Operand.tmp 3) 4,type:=0,pos := "ref.go:40", after:=#[{ on:=11,ground:=Ground.gcOnly Departure.lateStores }],guard:=none },{ dst:=some 146,op:=Op.load 3 (Operand.tmp 145),type:=3,pos := "ref.go:40", after:=#[{ on:=2,ground:=Ground.data },{ on:=11,ground:=Ground.gcOnly Departure.lateStores }],guard:=none },{ dst:=some 147,op:=Op.fieldAddr 47 (Operand.tmp 3) 1,type:=0,pos := "ref.go:40", after:=#[{ on:=13,ground:=Ground.gcOnly Departure.lateStores }],guard:=none },{ dst:=some 148,op:=Op.load 3 (Operand.tmp 147),type:=3,pos := "ref.go:40", after:=#[{ on:=4,ground:=Ground.data },{ on:=13,ground:=Ground.gcOnly Departure.lateStores }],guard:=none },{ dst:=some 149,op:=Op.fieldAddr 47 (Operand.tmp 3) 2,type:=0,pos := "ref.go:40", after:=#[{ on:=15,ground:=Ground.gcOnly Departure.lateStores }],guard:=none },{ dst:=some 150,op:=Op.load 3 (Operand.tmp 149),type:=3,pos := "ref.go:40", after:=#[{ on:=6,ground:=Ground.data },{ on:=15,ground:=Ground.gcOnly Departure.lateStores }],guard:=none },{ dst:=some 151,op:=Op.fieldAddr 47 (Operand.tmp 3) 5,type:=0,pos := "ref.go:40", after:=#[{ on:=17,ground:=Ground.gcOnly Departure.lateStores }],guard:=none },{ dst:=some 152,op:=Op.load 45 (Operand.tmp 151),type:=45,pos := "ref.go:40", after:=#[{ on:=8,ground:=Ground.data },{ on:=17,ground:=Ground.gcOnly Departure.lateStores }],guard:=none },{ dst:=some 153,op:=Op.fieldAddr 47 (Operand.tmp 10) 3,type:=0,pos := "ref.go:40", after:=#[{ on:=0,ground:=Ground.phase },{ on:=1,ground:=Ground.phase },{ on:=2,ground:=Ground.textOnly Departure.lateStores },{ on:=3,ground:=Ground.textOnly Departure.lateStores },{ on:=4,ground:=Ground.textOnly Departure.lateStores },{ on:=5,ground:=Ground.textOnly Departure.lateStores },{ on:=6,ground:=Ground.textOnly Departure.lateStores },{ on:=7,ground:=Ground.textOnly Departure.lateStores },{ on:=8,ground:=Ground.textOnly Departure.lateStores },{ on:=9,ground:=Ground.textOnly Departure.lateStores }],guard:=none },{ dst:=none,op:=Op.store 3 (Operand.tmp 153) (Operand.tmp 144),type:=0,pos := "ref.go:40", after:=#[{ on:=10,ground:=Ground.data },{ on:=1,ground:=Ground.data },{ on:=0,ground:=Ground.phase },{ on:=1,ground:=Ground.phase },{ on:=2,ground:=Ground.textOnly Departure.lateStores },{ on:=3,ground:=Ground.textOnly Departure.lateStores },{ on:=4,ground:=Ground.textOnly Departure.lateStores },{ on:=5,ground:=Ground.textOnly Departure.lateStores },{ on:=6,ground:=Ground.textOnly Departure.lateStores },{ on:=7,ground:=Ground.textOnly Departure.lateStores },{ on:=8,ground:=Ground.textOnly Departure.lateStores },{ on:=9,ground:=Ground.textOnly Departure.lateStores }],guard:=none },{ dst:=some 154,op:=Op.fieldAddr 47 (Operand.tmp 10) 4,type:=0,pos := "ref.go:40", after:=#[{ on:=0,ground:=Ground.phase },{ on:=1,ground:=Ground.phase },{ on:=2,ground:=Ground.phase },{ on:=3,ground:=Ground.phase },{ on:=4,ground:=Ground.textOnly Departure.lateStores },{ on:=5,ground:=Ground.textOnly Departure.lateStores },{ on:=6,ground:=Ground.textOnly Departure.lateStores },{ on:=7,ground:=Ground.textOnly Departure.lateStores },{ on:=8,ground:=Ground.textOnly Departure.lateStores },{ on:=9,ground:=Ground.textOnly Departure.lateStores },{ on:=10,ground:=Ground.phase },{ on:=11,ground:=Ground.phase }],guard:=none },{ dst:=none,op:=Op.store 3 (Operand.tmp 154) (Operand.tmp 146),type:=0,pos := "ref.go:40", after:=#[{ on:=12,ground:=Ground.data },{ on:=3,ground:=Ground.data },{ on:=11,ground:=Ground.chain },{ on:=0,ground:=Ground.phase },{ on:=1,ground:=Ground.phase },{ on:=2,ground:=Ground.phase },{ on:=3,ground:=Ground.phase },{ on:=4,ground:=Ground.textOnly Departure.lateStores },{ on:=5,ground:=Ground.textOnly Departure.lateStores },{ on:=6,ground:=Ground.textOnly Departure.lateStores },{ on:=7,ground:=Ground.textOnly Departure.lateStores },{ on:=8,ground:=Ground.textOnly Departure.lateStores },{ on:=9,ground:=Ground.textOnly Departure.lateStores },{ on:=10,ground:=Ground.phase },{ on:=11,ground:=Ground.phase }],guard:=none },{ dst:=some 155,op:=Op.fieldAddr 47 (Operand.tmp 10) 1,type:=0,pos := "ref.go:40", after:=#[{ on:=0,ground:=Ground.phase },{ on:=1,ground:=Ground.phase },{ on:=2,ground:=Ground.phase },{ on:=3,ground:=Ground.phase },{ on:=4,ground:=Ground.phase },{ on:=5,ground:=Ground.phase },{ on:=6,ground:=Ground.textOnly Departure.lateStores },{ on:=7,ground:=Ground.textOnly Departure.lateStores },{ on:=8,ground:=Ground.textOnly Departure.lateStores },{ on:=9,ground:=Ground.textOnly Departure.lateStores },{ on:=10,ground:=Ground.phase },{ on:=11,ground:=Ground.phase },{ on:=12,ground:=Ground.phase },{ on:=13,ground:=Ground.phase }],guard:=none },{ dst:=none,op:=Op.store 3 (Operand.tmp 155) (Operand.tmp 148),type:=0,pos := "ref.go:40", after:=#[{ on:=14,ground:=Ground.data },{ on:=5,ground:=Ground.data },{ on:=13,ground:=Ground.chain },{ on:=0,ground:=Ground.phase },{ on:=1,ground:=Ground.phase },{ on:=2,ground:=Ground.phase },{ on:=3,ground:=Ground.phase },{ on:=4,ground:=Ground.phase },{ on:=5,ground:=Ground.phase },{ on:=6,ground:=Ground.textOnly Departure.lateStores },{ on:=7,ground:=Ground.textOnly Departure.lateStores },{ on:=8,ground:=Ground.textOnly Departure.lateStores },{ on:=9,ground:=Ground.textOnly Departure.lateStores },{ on:=10,ground:=Ground.phase },{ on:=11,ground:=Ground.phase },{ on:=12,ground:=Ground.phase },{ on:=13,ground:=Ground.phase }],guard:=none },{ dst:=some 156,op:=Op.fieldAddr 47 (Operand.tmp 10) 2,type:=0,pos := "ref.go:40", after:=#[{ on:=0,ground:=Ground.phase },{ on:=1,ground:=Ground.phase },{ on:=2,ground:=Ground.phase },{ on:=3,ground:=Ground.phase },{ on:=4,ground:=Ground.phase },{ on:=5,ground:=Ground.phase },{ on:=6,ground:=Ground.phase },{ on:=7,ground:=Ground.phase },{ on:=8,ground:=Ground.textOnly Departure.lateStores },{ on:=9,ground:=Ground.textOnly Departure.lateStores },{ on:=10,ground:=Ground.phase },{ on:=11,ground:=Ground.phase },{ on:=12,ground:=Ground.phase },{ on:=13,ground:=Ground.phase },{ on:=14,ground:=Ground.phase },{ on:=15,ground:=Ground.phase }],guard:=none },{ dst:=none,op:=Op.store 3 (Operand.tmp 156) (Operand.tmp 150),type:=0,pos := "ref.go:40", after:=#[{ on:=16,ground:=Ground.data },{ on:=7,ground:=Ground.data },{ on:=15,ground:=Ground.chain },{ on:=0,ground:=Ground.phase },{ on:=1,ground:=Ground.phase },{ on:=2,ground:=Ground.phase },{ on:=3,ground:=Ground.phase },{ on:=4,ground:=Ground.phase },{ on:=5,ground:=Ground.phase },{ on:=6,ground:=Ground.phase },{ on:=7,ground:=Ground.phase },{ on:=8,ground:=Ground.textOnly Departure.lateStores },{ on:=9,ground:=Ground.textOnly Departure.lateStores },{ on:=10,ground:=Ground.phase },{ on:=11,ground:=Ground.phase },{ on:=12,ground:=Ground.phase },{ on:=13,ground:=Ground.phase },{ on:=14,ground:=Ground.phase },{ on:=15,ground:=Ground.phase }],guard:=none },{ dst:=some 157,op:=Op.fieldAddr 47 (Operand.tmp 10) 5,type:=0,pos := "ref.go:40", after:=#[{ on:=0,ground:=Ground.phase },{ on:=1,ground:=Ground.phase },{ on:=2,ground:=Ground.phase },{ on:=3,ground:=Ground.phase },{ on:=4,ground:=Ground.phase },{ on:=5,ground:=Ground.phase },{ on:=6,ground:=Ground.phase },{ on:=7,ground:=Ground.phase },{ on:=8,ground:=Ground.phase },{ on:=9,ground:=Ground.phase },{ on:=10,ground:=Ground.phase },{ on:=11,ground:=Ground.phase },{ on:=12,ground:=Ground.phase },{ on:=13,ground:=Ground.phase },{ on:=14,ground:=Ground.phase },{ on:=15,ground:=Ground.phase },{ on:=16,ground:=Ground.phase },{ on:=17,ground:=Ground.phase }],guard:=none },{ dst:=none,op:=Op.store 45 (Operand.tmp 157) (Operand.tmp 152),type:=0,pos := "ref.go:40", after:=#[{ on:=18,ground:=Ground.data },{ on:=9,ground:=Ground.data },{ on:=17,ground:=Ground.chain },{ on:=0,ground:=Ground.phase },{ on:=1,ground:=Ground.phase },{ on:=2,ground:=Ground.phase },{ on:=3,ground:=Ground.phase },{ on:=4,ground:=Ground.phase },{ on:=5,ground:=Ground.phase },{ on:=6,ground:=Ground.phase },{ on:=7,ground:=Ground.phase },{ on:=8,ground:=Ground.phase },{ on:=9,ground:=Ground.phase },{ on:=10,ground:=Ground.phase },{ on:=11,ground:=Ground.phase },{ on:=12,ground:=Ground.phase },{ on:=13,ground:=Ground.phase },{ on:=14,ground:=Ground.phase },{ on:=15,ground:=Ground.phase },{ on:=16,ground:=Ground.phase },{ on:=17,ground:=Ground.phase }],guard:=none }]
def rgA3:Array Oper:=#[{ dst:=some 164,op:=Op.fieldAddr 47 (Operand.tmp 3) 3,type:=0,pos := "ref.go:43", after:=#[],guard:=none },{ dst:=some 165,op:=Op.load 3 (Operand.tmp 164),type:=3,pos := "ref.go:43", after:=#[{ on:=0,ground:=Ground.data }],guard:=none },{ dst:=some 166,op:=Op.fieldAddr 47 (Operand.tmp 3) 5,type:=0,pos := "ref.go:43", after:=#[{ on:=5,ground:=Ground.gcOnly Departure.lateStores }],guard:=none },{ dst:=some 167,op:=Op.load 45 (Operand.tmp 166),type:=45,pos := "ref.go:43", after:=#[{ on:=2,ground:=Ground.data },{ on:=5,ground:=Ground.gcOnly Departure.lateStores }],guard:=none },{ dst:=some 168,op:=Op.fieldAddr 47 (Operand.tmp 10) 3,type:=0,pos := "ref.go:43", after:=#[{ on:=0,ground:=Ground.phase },{ on:=1,ground:=Ground.phase },{ on:=2,ground:=Ground.textOnly Departure.lateStores },{ on:=3,ground:=Ground.textOnly Departure.lateStores }],guard:=none },{ dst:=none,op:=Op.store 3 (Operand.tmp 168) (Operand.tmp 165),type:=0,pos := "ref.go:43", after:=#[{ on:=4,ground:=Ground.data },{ on:=1,ground:=Ground.data },{ on:=0,ground:=Ground.phase },{ on:=1,ground:=Ground.phase },{ on:=2,ground:=Ground.textOnly Departure.lateStores },{ on:=3,ground:=Ground.textOnly Departure.lateStores }],guard:=none },{ dst:=some 169,op:=Op.fieldAddr 47 (Operand.tmp 10) 5,type:=0,pos := "ref.go:43", after:=#[{ on:=0,ground:=Ground.phase },{ on:=1,ground:=Ground.phase },{ on:=2,ground:=Ground.phase },{ on:=3,ground:=Ground.phase },{ on:=4,ground:=Ground.phase },{ on:=5,ground:=Ground.phase }],guard:=none },{ dst:=none,op:=Op.store 45 (Operand.tmp 169) (Operand.tmp 167),type:=0,pos := "ref.go:43", after:=#[{ on:=6,ground:=Ground.data },{ on:=3,ground:=Ground.data },{ on:=5,ground:=Ground.chain },{ on:=0,ground:=Ground.phase },{ on:=1,ground:=Ground.phase },{ on:=2,ground:=Ground.phase },{ on:=3,ground:=Ground.phase },{ on:=4,ground:=Ground.phase },{ on:=5,ground:=Ground.phase }],guard:=none }]
def rgA4:Array Oper:=#[{ dst:=some 184,op:=Op.fieldAddr 47 (Operand.tmp 3) 6,type:=0,pos := "ref.go:46", after:=#[],guard:=none },{ dst:=some 185,op:=Op.load 3 (Operand.tmp 184),type:=3,pos := "ref.go:46", after:=#[{ on:=0,ground:=Ground.data }],guard:=none },{ dst:=some 186,op:=Op.fieldAddr 47 (Operand.tmp 3) 5,type:=0,pos := "ref.go:46", after:=#[{ on:=5,ground:=Ground.gcOnly Departure.lateStores }],guard:=none },{ dst:=some 187,op:=Op.load 45 (Operand.tmp 186),type:=45,pos := "ref.go:46", after:=#[{ on:=2,ground:=Ground.data },{ on:=5,ground:=Ground.gcOnly Departure.lateStores }],guard:=none },{ dst:=some 188,op:=Op.fieldAddr 47 (Operand.tmp 10) 6,type:=0,pos := "ref.go:46", after:=#[{ on:=0,ground:=Ground.phase },{ on:=1,ground:=Ground.phase },{ on:=2,ground:=Ground.textOnly Departure.lateStores },{ on:=3,ground:=Ground.textOnly Departure.lateStores }],guard:=none },{ dst:=none,op:=Op.store 3 (Operand.tmp 188) (Operand.tmp 185),type:=0,pos := "ref.go:46", after:=#[{ on:=4,ground:=Ground.data },{ on:=1,ground:=Ground.data },{ on:=0,ground:=Ground.phase },{ on:=1,ground:=Ground.phase },{ on:=2,ground:=Ground.textOnly Departure.lateStores },{ on:=3,ground:=Ground.textOnly Departure.lateStores }],guard:=none },{ dst:=some 189,op:=Op.fieldAddr 47 (Operand.tmp 10) 5,type:=0,pos := "ref.go:46", after:=#[{ on:=0,ground:=Ground.phase },{ on:=1,ground:=Ground.phase },{ on:=2,ground:=Ground.phase },{ on:=3,ground:=Ground.phase },{ on:=4,ground:=Ground.phase },{ on:=5,ground:=Ground.phase }],guard:=none },{ dst:=none,op:=Op.store 45 (Operand.tmp 189) (Operand.tmp 187),type:=0,pos := "ref.go:46", after:=#[{ on:=6,ground:=Ground.data },{ on:=3,ground:=Ground.data },{ on:=5,ground:=Ground.chain },{ on:=0,ground:=Ground.phase },{ on:=1,ground:=Ground.phase },{ on:=2,ground:=Ground.phase },{ on:=3,ground:=Ground.phase },{ on:=4,ground:=Ground.phase },{ on:=5,ground:=Ground.phase }],guard:=none }]
def rgA5:Array Oper:=#[{ dst:=some 97,op:=Op.fieldAddr 47 (Operand.tmp 3) 1,type:=0,pos := "ref.go:37", after:=#[],guard:=none },{ dst:=some 98,op:=Op.load 3 (Operand.tmp 97),type:=3,pos := "ref.go:37", after:=#[{ on:=0,ground:=Ground.data }],guard:=none },{ dst:=some 99,op:=Op.fieldAddr 47 (Operand.tmp 10) 1,type:=0,pos := "ref.go:37", after:=#[{ on:=0,ground:=Ground.phase },{ on:=1,ground:=Ground.phase }],guard:=none },{ dst:=none,op:=Op.store 3 (Operand.tmp 99) (Operand.tmp 98),type:=0,pos := "ref.go:37", after:=#[{ on:=2,ground:=Ground.data },{ on:=1,ground:=Ground.data },{ on:=0,ground:=Ground.phase },{ on:=1,ground:=Ground.phase }],guard:=none }]
def allD (d:Bool) (f:Bool→Bool):Bool:=f false && (!d || f true)
theorem allD_at {d:Bool} {f:Bool→Bool} (h:allD d f=true) (b:Bool) (hb:b=true→d=true):f b=true:=by
 unfold allD at h
 cases b with
 | false=>simp_all
 | true=>rw [hb rfl] at h; simp_all
namespace SndA
def XM (wx:World) (xb:Nat) (i:Ins) (w:World):Prop:=Below wx.heap.size wx w∧∃ k m m2 r l n:Int,∃ (a:Option Addr) (N c:Nat),w.heap[xb]?=some (.cells #[.int .i64 k,.int .i64 m,.int .i64 m2,.int .i64 r,.int .i64 l,.slice a N c,.int .i64 n] 47 (0,0))∧((a=none∧N=0∧c=0) ∨ (a=i.a∧N=i.E.length∧c=i.c))
section
variable {wx w:World} {xb:Nat} {i:Ins}
theorem XM.drew (h:XM wx xb i w):XM wx xb i w.drew:=by
 obtain ⟨h1,k,m,m2,r,l,n,a,N,c,h2,h3⟩:=h
 exact ⟨h1.drew,k,m,m2,r,l,n,a,N,c,h2,h3⟩
theorem XM.next {w':World} (h:XM wx xb i w) (hb:Below w.heap.size w w'):XM wx xb i w':=by
 obtain ⟨h1,k,m,m2,r,l,n,a,N,c,h2,h3⟩:=h
 exact ⟨below_next h1 hb,k,m,m2,r,l,n,a,N,c,(hb.block xb (blk_lt h2)).trans h2,h3⟩
theorem XM.at (h:XM wx xb i w):∃ u0 u1 u2 u3 u4 u5 u6:Value,w.heap[xb]?=some (.cells #[u0,u1,u2,u3,u4,u5,u6] 47 (0,0)):=by
 obtain ⟨h1,k,m,m2,r,l,n,a,N,c,h2,h3⟩:=h
 exact ⟨_,_,_,_,_,_,_,h2⟩
theorem XM.cell (h:XM wx xb i w) (k:Nat) (hk:k < 7):(∃ v,w.cell? ⟨xb,k,none⟩=some v)∧w.frozen? ⟨xb,k,none⟩=false:=by
 obtain ⟨u0,u1,u2,u3,u4,u5,u6,h⟩:=h.at
 have c:k=0 ∨ k=1 ∨ k=2 ∨ k=3 ∨ k=4 ∨ k=5 ∨ k=6:=by omega
 rcases c with c | c | c | c | c | c | c <;> subst c <;> exact ⟨⟨_,by simp [World.cell?,h]; rfl⟩,by simp [World.frozen?,h]⟩
theorem XM.set1 (h:XM wx xb i w) (hx:wx.heap.size≤xb) (x:Int):XM wx xb i (w.setCell ⟨xb,1,none⟩ (.int .i64 x)):=by
 obtain ⟨h1,k,m,m2,r,l,n,a,N,c,h2,h3⟩:=h
 exact ⟨h1.setCell hx _,k,x,m2,r,l,n,a,N,c,heap_setCell_same w xb 1 _ _ _ h2,h3⟩
theorem XM.set2 (h:XM wx xb i w) (hx:wx.heap.size≤xb) (x:Int):XM wx xb i (w.setCell ⟨xb,2,none⟩ (.int .i64 x)):=by
 obtain ⟨h1,k,m,m2,r,l,n,a,N,c,h2,h3⟩:=h
 exact ⟨h1.setCell hx _,k,m,x,r,l,n,a,N,c,heap_setCell_same w xb 2 _ _ _ h2,h3⟩
theorem XM.set3 (h:XM wx xb i w) (hx:wx.heap.size≤xb) (x:Int):XM wx xb i (w.setCell ⟨xb,3,none⟩ (.int .i64 x)):=by
 obtain ⟨h1,k,m,m2,r,l,n,a,N,c,h2,h3⟩:=h
 exact ⟨h1.setCell hx _,k,m,m2,x,l,n,a,N,c,heap_setCell_same w xb 3 _ _ _ h2,h3⟩
theorem XM.set4 (h:XM wx xb i w) (hx:wx.heap.size≤xb) (x:Int):XM wx xb i (w.setCell ⟨xb,4,none⟩ (.int .i64 x)):=by
 obtain ⟨h1,k,m,m2,r,l,n,a,N,c,h2,h3⟩:=h
 exact ⟨h1.setCell hx _,k,m,m2,r,x,n,a,N,c,heap_setCell_same w xb 4 _ _ _ h2,h3⟩
theorem XM.set6 (h:XM wx xb i w) (hx:wx.heap.size≤xb) (x:Int):XM wx xb i (w.setCell ⟨xb,6,none⟩ (.int .i64 x)):=by
 obtain ⟨h1,k,m,m2,r,l,n,a,N,c,h2,h3⟩:=h
 exact ⟨h1.setCell hx _,k,m,m2,r,l,x,a,N,c,heap_setCell_same w xb 6 _ _ _ h2,h3⟩
theorem XM.set5 (h:XM wx xb i w) (hx:wx.heap.size≤xb):XM wx xb i (w.setCell ⟨xb,5,none⟩ (.slice i.a i.E.length i.c)):=by
 obtain ⟨h1,k,m,m2,r,l,n,a,N,c,h2,h3⟩:=h
 exact ⟨h1.setCell hx _,k,m,m2,r,l,n,i.a,i.E.length,i.c,heap_setCell_same w xb 5 _ _ _ h2,.inr ⟨rfl,rfl,rfl⟩⟩
end
end SndA
def opsins9:Array Oper:=rgA0
def arrins9 (b1 b3 b5 b6 b7 b8 b9 b10 b11:Bool):Array Bool:=#[true,b1,true,b3,true,b5,b6,b7,b8,b9,b10,b11]
def conins9 (b1 b3 b5 b6 b7 b8 b9 b10 b11:Bool):Prop:=(b6=true→(b1)=true)∧(b7=true→(b6)=true)∧(b8=true→(b3 && b7)=true)∧(b9=true→(b8)=true)∧(b10=true→(b5 && b9)=true)∧(b11=true→(b10)=true)
def chkins9 (b1 b3 b5 b6 b7 b8 b9 b10 b11:Bool):Bool:=
 let r:=Region.ready .any opsins9 (arrins9 b1 b3 b5 b6 b7 b8 b9 b10 b11)
 (b1 && b3 && b5 && b6 && b7 && b8 && b9 && b10 && b11) || (!r.isEmpty && r.all fun i=>match i with | 1=>!b1 | 3=>!b3 | 5=>!b5 | 6=>b1 && !b6 | 7=>b1 && b6 && !b7 | 8=>b1 && b3 && b6 && b7 && !b8 | 9=>b1 && b3 && b6 && b7 && b8 && !b9 | 10=>b1 && b3 && b5 && b6 && b7 && b8 && b9 && !b10 | 11=>b1 && b3 && b5 && b6 && b7 && b8 && b9 && b10 && !b11 | _=>false)
theorem rdyins9':(allD (true) fun b1=>allD (true) fun b3=>allD (true) fun b5=>allD (b1) fun b6=>allD (b6) fun b7=>allD (b3 && b7) fun b8=>allD (b8) fun b9=>allD (b5 && b9) fun b10=>allD (b10) fun b11=>chkins9 b1 b3 b5 b6 b7 b8 b9 b10 b11)=true:=by kernel_rfl
theorem rdyins9 (b1 b3 b5 b6 b7 b8 b9 b10 b11:Bool) (h:conins9 b1 b3 b5 b6 b7 b8 b9 b10 b11):chkins9 b1 b3 b5 b6 b7 b8 b9 b10 b11=true:=by
 obtain ⟨c6,c7,c8,c9,c10,c11⟩:=h
 exact allD_at (allD_at (allD_at (allD_at (allD_at (allD_at (allD_at (allD_at (allD_at (rdyins9') b1 (fun _=>rfl)) b3 (fun _=>rfl)) b5 (fun _=>rfl)) b6 c6) b7 c7) b8 c8) b9 c9) b10 c10) b11 c11
namespace SndA
def Iins9 (wA:World) (xb:Nat) (i:Ins) (fr:Bool→Bool→Bool→Bool→Bool→Bool→Bool→Bool→Bool→Array Value) (k:Nat) (L:Array Bool) (a:Act) (w:World):Prop:=
 ∃ (b1 b3 b5 b6 b7 b8 b9 b10 b11:Bool),k=nb b1 + nb b3 + nb b5 + nb b6 + nb b7 + nb b8 + nb b9 + nb b10 + nb b11∧L=arrins9 b1 b3 b5 b6 b7 b8 b9 b10 b11∧a={ tmps:=fr b1 b3 b5 b6 b7 b8 b9 b10 b11,defers:=[] }∧XM wA xb i w∧conins9 b1 b3 b5 b6 b7 b8 b9 b10 b11
end SndA
set_option maxRecDepth 100000 in
set_option maxHeartbeats 8000000 in
theorem stepins9 (wA:World) (ib xb:Nat) (i:Ins) (hi:LCells wA ib 0 i) (hx:wA.heap.size≤xb) (z0 z1 z2 z4 z5 z6 z7 z8 z9 z11 z12 z13 z14 z15 z16 z17 z18 z19 z20 z21 z22 z23 z24 z25 z26 z27 z28 z29 z30 z31 z32 z33 z34 z35 z36 z37 z38 z39 z40 z41 z42 z43 z44 z45 z46 z47 z48 z49 z50 z51 z52 z54 z56 z58 z59 z60 z61 z62 z63 z64 z65 z66 z67 z68 z69 z70 z71 z72 z73 z74 z75 z76 z77 z78 z79 z80 z81 z82 z83 z84 z85 z86 z87 z88 z89 z90 z91 z92 z93 z94 z95 z96 z97 z98 z99 z100 z101 z102 z103 z104 z105 z106 z107 z108 z109 z110 z111 z112 z113 z114 z115 z116 z117 z118 z119 z120 z121 z122 z123 z124 z125 z126 z127 z128 z129 z130 z131 z132 z133 z134 z135 z136 z137 z138 z139 z140 z141 z142 z143 z144 z145 z146 z147 z148 z149 z150 z151 z152 z153 z154 z155 z156 z157 z158 z159 z160 z161 z162 z163 z164 z165 z166 z167 z168 z169 z170 z171 z172 z173 z174 z175 z176 z177 z178 z179 z180 z181 z182 z183 z184 z185 z186 z187 z188 z189 z190 z191 z192 z193 z194 z195:Value) (fr:Bool→Bool→Bool→Bool→Bool→Bool→Bool→Bool→Bool→Array Value) (hfr:∀ b1 b3 b5 b6 b7 b8 b9 b10 b11,fr b1 b3 b5 b6 b7 b8 b9 b10 b11=(z0::z1::z2::.pointer (some ⟨ib,0,none⟩)::z4::z5::z6::z7::z8::z9::.pointer (some ⟨xb,0,none⟩)::z11::z12::z13::z14::z15::z16::z17::z18::z19::z20::z21::z22::z23::z24::z25::z26::z27::z28::z29::z30::z31::z32::z33::z34::z35::z36::z37::z38::z39::z40::z41::z42::z43::z44::z45::z46::z47::z48::z49::z50::z51::z52::.pointer (some ⟨ib,3,none⟩)::(bif b1 then .int .i64 i.r else z54)::.pointer (some ⟨ib,4,none⟩)::(bif b3 then .int .i64 i.l else z56)::.pointer (some ⟨ib,1,none⟩)::(bif b5 then .int .i64 i.m else z58)::(bif b6 then .pointer (some ⟨xb,3,none⟩) else z59)::(bif b8 then .pointer (some ⟨xb,4,none⟩) else z60)::(bif b10 then .pointer (some ⟨xb,1,none⟩) else z61)::z62::z63::z64::z65::z66::z67::z68::z69::z70::z71::z72::z73::z74::z75::z76::z77::z78::z79::z80::z81::z82::z83::z84::z85::z86::z87::z88::z89::z90::z91::z92::z93::z94::z95::z96::z97::z98::z99::z100::z101::z102::z103::z104::z105::z106::z107::z108::z109::z110::z111::z112::z113::z114::z115::z116::z117::z118::z119::z120::z121::z122::z123::z124::z125::z126::z127::z128::z129::z130::z131::z132::z133::z134::z135::z136::z137::z138::z139::z140::z141::z142::z143::z144::z145::z146::z147::z148::z149::z150::z151::z152::z153::z154::z155::z156::z157::z158::z159::z160::z161::z162::z163::z164::z165::z166::z167::z168::z169::z170::z171::z172::z173::z174::z175::z176::z177::z178::z179::z180::z181::z182::z183::z184::z185::z186::z187::z188::z189::z190::z191::z192::z193::z194::z195::[]).toArray) (Q:Exit→Act→World→Prop) (k:Nat) (L:Array Bool) (a:Act) (w:World) (h:Iins9 wA xb i fr (k + 1) L a w) :
  Region.ready .any opsins9 L ≠ []∧∀ i' ∈ Region.ready .any opsins9 L,wpOp Try.prog opsins9 Q i' (fun a' w'=>Iins9 wA xb i fr k (L.setIfInBounds i' true) a' w') a w:=by
 obtain ⟨b1,b3,b5,b6,b7,b8,b9,b10,b11,hk,rfl,rfl,hM,hcon⟩:=h
 have hnt:nb true=0:=rfl
 have hnf:nb false=1:=rfl
 have hc:=rdyins9 b1 b3 b5 b6 b7 b8 b9 b10 b11 hcon
 unfold chkins9 at hc
 have hn:(b1 && b3 && b5 && b6 && b7 && b8 && b9 && b10 && b11)=false:=by
  cases hq:(b1 && b3 && b5 && b6 && b7 && b8 && b9 && b10 && b11) with
  | false=>rfl
  | true=>
   simp only [Bool.and_eq_true] at hq
   obtain ⟨⟨⟨⟨⟨⟨⟨⟨rfl,rfl⟩,rfl⟩,rfl⟩,rfl⟩,rfl⟩,rfl⟩,rfl⟩,rfl⟩:=hq
   simp [nb] at hk
 rw [hn] at hc
 obtain ⟨c6,c7,c8,c9,c10,c11⟩:=hcon
 simp only [Bool.false_or,Bool.and_eq_true,List.all_eq_true,Bool.not_eq_true'] at hc
 refine ⟨fun h0=>by rw [h0] at hc; simp at hc,fun i' hi'=>?_⟩
 have hi2:=hc.2 i' hi'
 clear hc hi' hn
 split at hi2
 ·simp only [Bool.not_eq_true'] at hi2
  subst hi2
  have c:=cell_next hi.c3 hM.1
  refine wpOp_one (o:=ogA0) (by rfl) rfl ?_
  unfold ogA0
  generalize hK:(fun a' w'=>Iins9 wA xb i fr k ((arrins9 false b3 b5 b6 b7 b8 b9 b10 b11).setIfInBounds 1 true) a' w')=K
  rw [hfr]
  unfold Oper.wp
  go_simp
  subst hK
  exact ⟨true,b3,b5,b6,b7,b8,b9,b10,b11,by omega,rfl,by rw [hfr]; rfl,hM,⟨by first | exact c6 | exact fun _=>rfl | (intro q; have:=c6 q; simp at this),by first | exact c7 | exact fun _=>rfl | (intro q; have:=c7 q; simp at this),by first | exact c8 | exact fun _=>rfl | (intro q; have:=c8 q; simp at this),by first | exact c9 | exact fun _=>rfl | (intro q; have:=c9 q; simp at this),by first | exact c10 | exact fun _=>rfl | (intro q; have:=c10 q; simp at this),by first | exact c11 | exact fun _=>rfl | (intro q; have:=c11 q; simp at this)⟩⟩
 ·simp only [Bool.not_eq_true'] at hi2
  subst hi2
  have c:=cell_next hi.c4 hM.1
  refine wpOp_one (o:=ogA1) (by rfl) rfl ?_
  unfold ogA1
  generalize hK:(fun a' w'=>Iins9 wA xb i fr k ((arrins9 b1 false b5 b6 b7 b8 b9 b10 b11).setIfInBounds 3 true) a' w')=K
  rw [hfr]
  unfold Oper.wp
  go_simp
  subst hK
  exact ⟨b1,true,b5,b6,b7,b8,b9,b10,b11,by omega,rfl,by rw [hfr]; rfl,hM,⟨by first | exact c6 | exact fun _=>rfl | (intro q; have:=c6 q; simp at this),by first | exact c7 | exact fun _=>rfl | (intro q; have:=c7 q; simp at this),by first | exact c8 | exact fun _=>rfl | (intro q; have:=c8 q; simp at this),by first | exact c9 | exact fun _=>rfl | (intro q; have:=c9 q; simp at this),by first | exact c10 | exact fun _=>rfl | (intro q; have:=c10 q; simp at this),by first | exact c11 | exact fun _=>rfl | (intro q; have:=c11 q; simp at this)⟩⟩
 ·simp only [Bool.not_eq_true'] at hi2
  subst hi2
  have c:=cell_next hi.c1 hM.1
  refine wpOp_one (o:=ogA2) (by rfl) rfl ?_
  unfold ogA2
  generalize hK:(fun a' w'=>Iins9 wA xb i fr k ((arrins9 b1 b3 false b6 b7 b8 b9 b10 b11).setIfInBounds 5 true) a' w')=K
  rw [hfr]
  unfold Oper.wp
  go_simp
  subst hK
  exact ⟨b1,b3,true,b6,b7,b8,b9,b10,b11,by omega,rfl,by rw [hfr]; rfl,hM,⟨by first | exact c6 | exact fun _=>rfl | (intro q; have:=c6 q; simp at this),by first | exact c7 | exact fun _=>rfl | (intro q; have:=c7 q; simp at this),by first | exact c8 | exact fun _=>rfl | (intro q; have:=c8 q; simp at this),by first | exact c9 | exact fun _=>rfl | (intro q; have:=c9 q; simp at this),by first | exact c10 | exact fun _=>rfl | (intro q; have:=c10 q; simp at this),by first | exact c11 | exact fun _=>rfl | (intro q; have:=c11 q; simp at this)⟩⟩
 ·simp only [Bool.and_eq_true,Bool.not_eq_true'] at hi2
  obtain ⟨rfl,rfl⟩:=hi2
  refine wpOp_one (o:=ogA3) (by rfl) rfl ?_
  unfold ogA3
  generalize hK:(fun a' w'=>Iins9 wA xb i fr k ((arrins9 true b3 b5 false b7 b8 b9 b10 b11).setIfInBounds 6 true) a' w')=K
  rw [hfr]
  unfold Oper.wp
  go_simp
  subst hK
  exact ⟨true,b3,b5,true,b7,b8,b9,b10,b11,by omega,rfl,by rw [hfr]; rfl,hM,⟨by first | exact c6 | exact fun _=>rfl | (intro q; have:=c6 q; simp at this),by first | exact c7 | exact fun _=>rfl | (intro q; have:=c7 q; simp at this),by first | exact c8 | exact fun _=>rfl | (intro q; have:=c8 q; simp at this),by first | exact c9 | exact fun _=>rfl | (intro q; have:=c9 q; simp at this),by first | exact c10 | exact fun _=>rfl | (intro q; have:=c10 q; simp at this),by first | exact c11 | exact fun _=>rfl | (intro q; have:=c11 q; simp at this)⟩⟩
 ·simp only [Bool.and_eq_true,Bool.not_eq_true'] at hi2
  obtain ⟨⟨rfl,rfl⟩,rfl⟩:=hi2
  obtain ⟨⟨vo,c⟩,d⟩:=hM.cell 3 (by omega)
  refine wpOp_one (o:=ogA4) (by rfl) rfl ?_
  unfold ogA4
  generalize hK:(fun a' w'=>Iins9 wA xb i fr k ((arrins9 true b3 b5 true false b8 b9 b10 b11).setIfInBounds 7 true) a' w')=K
  rw [hfr]
  unfold Oper.wp
  go_simp
  subst hK
  exact ⟨true,b3,b5,true,true,b8,b9,b10,b11,by omega,rfl,by rw [hfr]; rfl,hM.set3 hx _,⟨by first | exact c6 | exact fun _=>rfl | (intro q; have:=c6 q; simp at this),by first | exact c7 | exact fun _=>rfl | (intro q; have:=c7 q; simp at this),by first | exact c8 | exact fun _=>rfl | (intro q; have:=c8 q; simp at this),by first | exact c9 | exact fun _=>rfl | (intro q; have:=c9 q; simp at this),by first | exact c10 | exact fun _=>rfl | (intro q; have:=c10 q; simp at this),by first | exact c11 | exact fun _=>rfl | (intro q; have:=c11 q; simp at this)⟩⟩
 ·simp only [Bool.and_eq_true,Bool.not_eq_true'] at hi2
  obtain ⟨⟨⟨⟨rfl,rfl⟩,rfl⟩,rfl⟩,rfl⟩:=hi2
  refine wpOp_one (o:=ogA5) (by rfl) rfl ?_
  unfold ogA5
  generalize hK:(fun a' w'=>Iins9 wA xb i fr k ((arrins9 true true b5 true true false b9 b10 b11).setIfInBounds 8 true) a' w')=K
  rw [hfr]
  unfold Oper.wp
  go_simp
  subst hK
  exact ⟨true,true,b5,true,true,true,b9,b10,b11,by omega,rfl,by rw [hfr]; rfl,hM,⟨by first | exact c6 | exact fun _=>rfl | (intro q; have:=c6 q; simp at this),by first | exact c7 | exact fun _=>rfl | (intro q; have:=c7 q; simp at this),by first | exact c8 | exact fun _=>rfl | (intro q; have:=c8 q; simp at this),by first | exact c9 | exact fun _=>rfl | (intro q; have:=c9 q; simp at this),by first | exact c10 | exact fun _=>rfl | (intro q; have:=c10 q; simp at this),by first | exact c11 | exact fun _=>rfl | (intro q; have:=c11 q; simp at this)⟩⟩
 ·simp only [Bool.and_eq_true,Bool.not_eq_true'] at hi2
  obtain ⟨⟨⟨⟨⟨rfl,rfl⟩,rfl⟩,rfl⟩,rfl⟩,rfl⟩:=hi2
  obtain ⟨⟨vo,c⟩,d⟩:=hM.cell 4 (by omega)
  refine wpOp_one (o:=ogA6) (by rfl) rfl ?_
  unfold ogA6
  generalize hK:(fun a' w'=>Iins9 wA xb i fr k ((arrins9 true true b5 true true true false b10 b11).setIfInBounds 9 true) a' w')=K
  rw [hfr]
  unfold Oper.wp
  go_simp
  subst hK
  exact ⟨true,true,b5,true,true,true,true,b10,b11,by omega,rfl,by rw [hfr]; rfl,hM.set4 hx _,⟨by first | exact c6 | exact fun _=>rfl | (intro q; have:=c6 q; simp at this),by first | exact c7 | exact fun _=>rfl | (intro q; have:=c7 q; simp at this),by first | exact c8 | exact fun _=>rfl | (intro q; have:=c8 q; simp at this),by first | exact c9 | exact fun _=>rfl | (intro q; have:=c9 q; simp at this),by first | exact c10 | exact fun _=>rfl | (intro q; have:=c10 q; simp at this),by first | exact c11 | exact fun _=>rfl | (intro q; have:=c11 q; simp at this)⟩⟩
 ·simp only [Bool.and_eq_true,Bool.not_eq_true'] at hi2
  obtain ⟨⟨⟨⟨⟨⟨⟨rfl,rfl⟩,rfl⟩,rfl⟩,rfl⟩,rfl⟩,rfl⟩,rfl⟩:=hi2
  refine wpOp_one (o:=ogA7) (by rfl) rfl ?_
  unfold ogA7
  generalize hK:(fun a' w'=>Iins9 wA xb i fr k ((arrins9 true true true true true true true false b11).setIfInBounds 10 true) a' w')=K
  rw [hfr]
  unfold Oper.wp
  go_simp
  subst hK
  exact ⟨true,true,true,true,true,true,true,true,b11,by omega,rfl,by rw [hfr]; rfl,hM,⟨by first | exact c6 | exact fun _=>rfl | (intro q; have:=c6 q; simp at this),by first | exact c7 | exact fun _=>rfl | (intro q; have:=c7 q; simp at this),by first | exact c8 | exact fun _=>rfl | (intro q; have:=c8 q; simp at this),by first | exact c9 | exact fun _=>rfl | (intro q; have:=c9 q; simp at this),by first | exact c10 | exact fun _=>rfl | (intro q; have:=c10 q; simp at this),by first | exact c11 | exact fun _=>rfl | (intro q; have:=c11 q; simp at this)⟩⟩
 ·simp only [Bool.and_eq_true,Bool.not_eq_true'] at hi2
  obtain ⟨⟨⟨⟨⟨⟨⟨⟨rfl,rfl⟩,rfl⟩,rfl⟩,rfl⟩,rfl⟩,rfl⟩,rfl⟩,rfl⟩:=hi2
  obtain ⟨⟨vo,c⟩,d⟩:=hM.cell 1 (by omega)
  refine wpOp_one (o:=ogA8) (by rfl) rfl ?_
  unfold ogA8
  generalize hK:(fun a' w'=>Iins9 wA xb i fr k ((arrins9 true true true true true true true true false).setIfInBounds 11 true) a' w')=K
  rw [hfr]
  unfold Oper.wp
  go_simp
  subst hK
  exact ⟨true,true,true,true,true,true,true,true,true,by omega,rfl,by rw [hfr]; rfl,hM.set1 hx _,⟨by first | exact c6 | exact fun _=>rfl | (intro q; have:=c6 q; simp at this),by first | exact c7 | exact fun _=>rfl | (intro q; have:=c7 q; simp at this),by first | exact c8 | exact fun _=>rfl | (intro q; have:=c8 q; simp at this),by first | exact c9 | exact fun _=>rfl | (intro q; have:=c9 q; simp at this),by first | exact c10 | exact fun _=>rfl | (intro q; have:=c10 q; simp at this),by first | exact c11 | exact fun _=>rfl | (intro q; have:=c11 q; simp at this)⟩⟩
 ·cases hi2
set_option maxRecDepth 100000 in
set_option maxHeartbeats 8000000 in
theorem ins9_l (wA w:World) (ib xb:Nat) (i:Ins) (hi:LCells wA ib 0 i) (hx:wA.heap.size≤xb) (hM:XM wA xb i w) (z0 z1 z2 z4 z5 z6 z7 z8 z9 z11 z12 z13 z14 z15 z16 z17 z18 z19 z20 z21 z22 z23 z24 z25 z26 z27 z28 z29 z30 z31 z32 z33 z34 z35 z36 z37 z38 z39 z40 z41 z42 z43 z44 z45 z46 z47 z48 z49 z50 z51 z52 z53 z54 z55 z56 z57 z58 z59 z60 z61 z62 z63 z64 z65 z66 z67 z68 z69 z70 z71 z72 z73 z74 z75 z76 z77 z78 z79 z80 z81 z82 z83 z84 z85 z86 z87 z88 z89 z90 z91 z92 z93 z94 z95 z96 z97 z98 z99 z100 z101 z102 z103 z104 z105 z106 z107 z108 z109 z110 z111 z112 z113 z114 z115 z116 z117 z118 z119 z120 z121 z122 z123 z124 z125 z126 z127 z128 z129 z130 z131 z132 z133 z134 z135 z136 z137 z138 z139 z140 z141 z142 z143 z144 z145 z146 z147 z148 z149 z150 z151 z152 z153 z154 z155 z156 z157 z158 z159 z160 z161 z162 z163 z164 z165 z166 z167 z168 z169 z170 z171 z172 z173 z174 z175 z176 z177 z178 z179 z180 z181 z182 z183 z184 z185 z186 z187 z188 z189 z190 z191 z192 z193 z194 z195:Value) (Q:Exit→Act→World→Prop)
  (hQp:∀ c (a:Act) (d:Tmp) v w,Q (.panic c) (a.put (some d) v) w→Q (.panic c) a w)
  (hQ:∀ (y53 y54 y55 y56 y57 y58 y59 y60 y61:Value) (W':World),XM wA xb i W'→Q .normal { tmps:=(z0::z1::z2::.pointer (some ⟨ib,0,none⟩)::z4::z5::z6::z7::z8::z9::.pointer (some ⟨xb,0,none⟩)::z11::z12::z13::z14::z15::z16::z17::z18::z19::z20::z21::z22::z23::z24::z25::z26::z27::z28::z29::z30::z31::z32::z33::z34::z35::z36::z37::z38::z39::z40::z41::z42::z43::z44::z45::z46::z47::z48::z49::z50::z51::z52::y53::y54::y55::y56::y57::y58::y59::y60::y61::z62::z63::z64::z65::z66::z67::z68::z69::z70::z71::z72::z73::z74::z75::z76::z77::z78::z79::z80::z81::z82::z83::z84::z85::z86::z87::z88::z89::z90::z91::z92::z93::z94::z95::z96::z97::z98::z99::z100::z101::z102::z103::z104::z105::z106::z107::z108::z109::z110::z111::z112::z113::z114::z115::z116::z117::z118::z119::z120::z121::z122::z123::z124::z125::z126::z127::z128::z129::z130::z131::z132::z133::z134::z135::z136::z137::z138::z139::z140::z141::z142::z143::z144::z145::z146::z147::z148::z149::z150::z151::z152::z153::z154::z155::z156::z157::z158::z159::z160::z161::z162::z163::z164::z165::z166::z167::z168::z169::z170::z171::z172::z173::z174::z175::z176::z177::z178::z179::z180::z181::z182::z183::z184::z185::z186::z187::z188::z189::z190::z191::z192::z193::z194::z195::[]).toArray,defers:=[] } W') :
  Code.wp Try.prog (Code.region 9 rgA0 true) Q { tmps:=(z0::z1::z2::.pointer (some ⟨ib,0,none⟩)::z4::z5::z6::z7::z8::z9::.pointer (some ⟨xb,0,none⟩)::z11::z12::z13::z14::z15::z16::z17::z18::z19::z20::z21::z22::z23::z24::z25::z26::z27::z28::z29::z30::z31::z32::z33::z34::z35::z36::z37::z38::z39::z40::z41::z42::z43::z44::z45::z46::z47::z48::z49::z50::z51::z52::z53::z54::z55::z56::z57::z58::z59::z60::z61::z62::z63::z64::z65::z66::z67::z68::z69::z70::z71::z72::z73::z74::z75::z76::z77::z78::z79::z80::z81::z82::z83::z84::z85::z86::z87::z88::z89::z90::z91::z92::z93::z94::z95::z96::z97::z98::z99::z100::z101::z102::z103::z104::z105::z106::z107::z108::z109::z110::z111::z112::z113::z114::z115::z116::z117::z118::z119::z120::z121::z122::z123::z124::z125::z126::z127::z128::z129::z130::z131::z132::z133::z134::z135::z136::z137::z138::z139::z140::z141::z142::z143::z144::z145::z146::z147::z148::z149::z150::z151::z152::z153::z154::z155::z156::z157::z158::z159::z160::z161::z162::z163::z164::z165::z166::z167::z168::z169::z170::z171::z172::z173::z174::z175::z176::z177::z178::z179::z180::z181::z182::z183::z184::z185::z186::z187::z188::z189::z190::z191::z192::z193::z194::z195::[]).toArray,defers:=[] } w:=by
 unfold rgA0
 refine wp_region_any (by kernel_rfl) ?_
 have hMd:=hM.drew
 clear hM
 change wpAny _ _ _ _ _ _ _ (World.drew _)
 generalize World.drew w=w2 at hMd ⊢
 refine wpAny_take (i:=0) (v:=.pointer (some ⟨ib,3,none⟩)) rfl (by kernel_rfl) (by kernel_rfl) (by kernel_rfl) (fun c a w=>hQp c a _ _ w) (Or.inl ⟨by rfl,?_⟩) ?_
 ·intro w
  go_simp
 refine wpAny_take (i:=2) (v:=.pointer (some ⟨ib,4,none⟩)) rfl (by kernel_rfl) (by kernel_rfl) (by kernel_rfl) (fun c a w=>hQp c a _ _ w) (Or.inl ⟨by rfl,?_⟩) ?_
 ·intro w
  go_simp
 refine wpAny_take (i:=4) (v:=.pointer (some ⟨ib,1,none⟩)) rfl (by kernel_rfl) (by kernel_rfl) (by kernel_rfl) (fun c a w=>hQp c a _ _ w) (Or.inl ⟨by rfl,?_⟩) ?_
 ·intro w
  go_simp
 show wpAny _ _ opsins9 _ (0 + 9) _ _ _
 refine wpAny_inv (I:=Iins9 wA xb i (fun b1 b3 b5 b6 b7 b8 b9 b10 b11=>(z0::z1::z2::.pointer (some ⟨ib,0,none⟩)::z4::z5::z6::z7::z8::z9::.pointer (some ⟨xb,0,none⟩)::z11::z12::z13::z14::z15::z16::z17::z18::z19::z20::z21::z22::z23::z24::z25::z26::z27::z28::z29::z30::z31::z32::z33::z34::z35::z36::z37::z38::z39::z40::z41::z42::z43::z44::z45::z46::z47::z48::z49::z50::z51::z52::.pointer (some ⟨ib,3,none⟩)::(bif b1 then .int .i64 i.r else z54)::.pointer (some ⟨ib,4,none⟩)::(bif b3 then .int .i64 i.l else z56)::.pointer (some ⟨ib,1,none⟩)::(bif b5 then .int .i64 i.m else z58)::(bif b6 then .pointer (some ⟨xb,3,none⟩) else z59)::(bif b8 then .pointer (some ⟨xb,4,none⟩) else z60)::(bif b10 then .pointer (some ⟨xb,1,none⟩) else z61)::z62::z63::z64::z65::z66::z67::z68::z69::z70::z71::z72::z73::z74::z75::z76::z77::z78::z79::z80::z81::z82::z83::z84::z85::z86::z87::z88::z89::z90::z91::z92::z93::z94::z95::z96::z97::z98::z99::z100::z101::z102::z103::z104::z105::z106::z107::z108::z109::z110::z111::z112::z113::z114::z115::z116::z117::z118::z119::z120::z121::z122::z123::z124::z125::z126::z127::z128::z129::z130::z131::z132::z133::z134::z135::z136::z137::z138::z139::z140::z141::z142::z143::z144::z145::z146::z147::z148::z149::z150::z151::z152::z153::z154::z155::z156::z157::z158::z159::z160::z161::z162::z163::z164::z165::z166::z167::z168::z169::z170::z171::z172::z173::z174::z175::z176::z177::z178::z179::z180::z181::z182::z183::z184::z185::z186::z187::z188::z189::z190::z191::z192::z193::z194::z195::[]).toArray)) (fun k L a w=>stepins9 wA ib xb i hi hx _ _ _ _ _ _ _ _ _ _ _ _ _ _ _ _ _ _ _ _ _ _ _ _ _ _ _ _ _ _ _ _ _ _ _ _ _ _ _ _ _ _ _ _ _ _ _ _ _ _ _ _ _ _ _ _ _ _ _ _ _ _ _ _ _ _ _ _ _ _ _ _ _ _ _ _ _ _ _ _ _ _ _ _ _ _ _ _ _ _ _ _ _ _ _ _ _ _ _ _ _ _ _ _ _ _ _ _ _ _ _ _ _ _ _ _ _ _ _ _ _ _ _ _ _ _ _ _ _ _ _ _ _ _ _ _ _ _ _ _ _ _ _ _ _ _ _ _ _ _ _ _ _ _ _ _ _ _ _ _ _ _ _ _ _ _ _ _ _ _ _ _ _ _ _ _ _ _ _ _ _ _ _ _ _ _ _ _ _ _ _ _ (fun _ _ _ _ _ _ _ _ _=>rfl) Q k L a w) ?_ 9 _ _ _ ⟨false,false,false,false,false,false,false,false,false,by kernel_rfl,by kernel_rfl,by kernel_rfl,hMd,by simp [conins9]⟩
 rintro L a w1 ⟨b1,b3,b5,b6,b7,b8,b9,b10,b11,hk,rfl,rfl,hM,-⟩
 obtain ⟨rfl,rfl,rfl,rfl,rfl,rfl,rfl,rfl,rfl⟩:b1=true∧b3=true∧b5=true∧b6=true∧b7=true∧b8=true∧b9=true∧b10=true∧b11=true:=⟨nb0 _ (by omega),nb0 _ (by omega),nb0 _ (by omega),nb0 _ (by omega),nb0 _ (by omega),nb0 _ (by omega),nb0 _ (by omega),nb0 _ (by omega),nb0 _ (by omega)⟩
 clear hk
 refine wpAny_done (by kernel_rfl) ?_ _
 exact hQ _ _ _ _ _ _ _ _ _ w1 hM
def opsins12:Array Oper:=rgA1
def arrins12 (b1 b3 b5 b6 b7 b8 b9 b10 b11:Bool):Array Bool:=#[true,b1,true,b3,true,b5,b6,b7,b8,b9,b10,b11]
def conins12 (b1 b3 b5 b6 b7 b8 b9 b10 b11:Bool):Prop:=(b6=true→(b1)=true)∧(b7=true→(b6)=true)∧(b8=true→(b3 && b7)=true)∧(b9=true→(b8)=true)∧(b10=true→(b5 && b9)=true)∧(b11=true→(b10)=true)
def chkins12 (b1 b3 b5 b6 b7 b8 b9 b10 b11:Bool):Bool:=
 let r:=Region.ready .any opsins12 (arrins12 b1 b3 b5 b6 b7 b8 b9 b10 b11)
 (b1 && b3 && b5 && b6 && b7 && b8 && b9 && b10 && b11) || (!r.isEmpty && r.all fun i=>match i with | 1=>!b1 | 3=>!b3 | 5=>!b5 | 6=>b1 && !b6 | 7=>b1 && b6 && !b7 | 8=>b1 && b3 && b6 && b7 && !b8 | 9=>b1 && b3 && b6 && b7 && b8 && !b9 | 10=>b1 && b3 && b5 && b6 && b7 && b8 && b9 && !b10 | 11=>b1 && b3 && b5 && b6 && b7 && b8 && b9 && b10 && !b11 | _=>false)
theorem rdyins12':(allD (true) fun b1=>allD (true) fun b3=>allD (true) fun b5=>allD (b1) fun b6=>allD (b6) fun b7=>allD (b3 && b7) fun b8=>allD (b8) fun b9=>allD (b5 && b9) fun b10=>allD (b10) fun b11=>chkins12 b1 b3 b5 b6 b7 b8 b9 b10 b11)=true:=by kernel_rfl
theorem rdyins12 (b1 b3 b5 b6 b7 b8 b9 b10 b11:Bool) (h:conins12 b1 b3 b5 b6 b7 b8 b9 b10 b11):chkins12 b1 b3 b5 b6 b7 b8 b9 b10 b11=true:=by
 obtain ⟨c6,c7,c8,c9,c10,c11⟩:=h
 exact allD_at (allD_at (allD_at (allD_at (allD_at (allD_at (allD_at (allD_at (allD_at (rdyins12') b1 (fun _=>rfl)) b3 (fun _=>rfl)) b5 (fun _=>rfl)) b6 c6) b7 c7) b8 c8) b9 c9) b10 c10) b11 c11
namespace SndA
def Iins12 (wA:World) (xb:Nat) (i:Ins) (fr:Bool→Bool→Bool→Bool→Bool→Bool→Bool→Bool→Bool→Array Value) (k:Nat) (L:Array Bool) (a:Act) (w:World):Prop:=
 ∃ (b1 b3 b5 b6 b7 b8 b9 b10 b11:Bool),k=nb b1 + nb b3 + nb b5 + nb b6 + nb b7 + nb b8 + nb b9 + nb b10 + nb b11∧L=arrins12 b1 b3 b5 b6 b7 b8 b9 b10 b11∧a={ tmps:=fr b1 b3 b5 b6 b7 b8 b9 b10 b11,defers:=[] }∧XM wA xb i w∧conins12 b1 b3 b5 b6 b7 b8 b9 b10 b11
end SndA
set_option maxRecDepth 100000 in
set_option maxHeartbeats 8000000 in
theorem stepins12 (wA:World) (ib xb:Nat) (i:Ins) (hi:LCells wA ib 0 i) (hx:wA.heap.size≤xb) (z0 z1 z2 z4 z5 z6 z7 z8 z9 z11 z12 z13 z14 z15 z16 z17 z18 z19 z20 z21 z22 z23 z24 z25 z26 z27 z28 z29 z30 z31 z32 z33 z34 z35 z36 z37 z38 z39 z40 z41 z42 z43 z44 z45 z46 z47 z48 z49 z50 z51 z52 z53 z54 z55 z56 z57 z58 z59 z60 z61 z62 z63 z64 z65 z66 z67 z68 z69 z70 z71 z72 z73 z74 z75 z76 z77 z79 z81 z83 z84 z85 z86 z87 z88 z89 z90 z91 z92 z93 z94 z95 z96 z97 z98 z99 z100 z101 z102 z103 z104 z105 z106 z107 z108 z109 z110 z111 z112 z113 z114 z115 z116 z117 z118 z119 z120 z121 z122 z123 z124 z125 z126 z127 z128 z129 z130 z131 z132 z133 z134 z135 z136 z137 z138 z139 z140 z141 z142 z143 z144 z145 z146 z147 z148 z149 z150 z151 z152 z153 z154 z155 z156 z157 z158 z159 z160 z161 z162 z163 z164 z165 z166 z167 z168 z169 z170 z171 z172 z173 z174 z175 z176 z177 z178 z179 z180 z181 z182 z183 z184 z185 z186 z187 z188 z189 z190 z191 z192 z193 z194 z195:Value) (fr:Bool→Bool→Bool→Bool→Bool→Bool→Bool→Bool→Bool→Array Value) (hfr:∀ b1 b3 b5 b6 b7 b8 b9 b10 b11,fr b1 b3 b5 b6 b7 b8 b9 b10 b11=(z0::z1::z2::.pointer (some ⟨ib,0,none⟩)::z4::z5::z6::z7::z8::z9::.pointer (some ⟨xb,0,none⟩)::z11::z12::z13::z14::z15::z16::z17::z18::z19::z20::z21::z22::z23::z24::z25::z26::z27::z28::z29::z30::z31::z32::z33::z34::z35::z36::z37::z38::z39::z40::z41::z42::z43::z44::z45::z46::z47::z48::z49::z50::z51::z52::z53::z54::z55::z56::z57::z58::z59::z60::z61::z62::z63::z64::z65::z66::z67::z68::z69::z70::z71::z72::z73::z74::z75::z76::z77::.pointer (some ⟨ib,4,none⟩)::(bif b1 then .int .i64 i.l else z79)::.pointer (some ⟨ib,1,none⟩)::(bif b3 then .int .i64 i.m else z81)::.pointer (some ⟨ib,5,none⟩)::(bif b5 then .slice i.a i.E.length i.c else z83)::(bif b6 then .pointer (some ⟨xb,4,none⟩) else z84)::(bif b8 then .pointer (some ⟨xb,1,none⟩) else z85)::(bif b10 then .pointer (some ⟨xb,5,none⟩) else z86)::z87::z88::z89::z90::z91::z92::z93::z94::z95::z96::z97::z98::z99::z100::z101::z102::z103::z104::z105::z106::z107::z108::z109::z110::z111::z112::z113::z114::z115::z116::z117::z118::z119::z120::z121::z122::z123::z124::z125::z126::z127::z128::z129::z130::z131::z132::z133::z134::z135::z136::z137::z138::z139::z140::z141::z142::z143::z144::z145::z146::z147::z148::z149::z150::z151::z152::z153::z154::z155::z156::z157::z158::z159::z160::z161::z162::z163::z164::z165::z166::z167::z168::z169::z170::z171::z172::z173::z174::z175::z176::z177::z178::z179::z180::z181::z182::z183::z184::z185::z186::z187::z188::z189::z190::z191::z192::z193::z194::z195::[]).toArray) (Q:Exit→Act→World→Prop) (k:Nat) (L:Array Bool) (a:Act) (w:World) (h:Iins12 wA xb i fr (k + 1) L a w) :
  Region.ready .any opsins12 L ≠ []∧∀ i' ∈ Region.ready .any opsins12 L,wpOp Try.prog opsins12 Q i' (fun a' w'=>Iins12 wA xb i fr k (L.setIfInBounds i' true) a' w') a w:=by
 obtain ⟨b1,b3,b5,b6,b7,b8,b9,b10,b11,hk,rfl,rfl,hM,hcon⟩:=h
 have hnt:nb true=0:=rfl
 have hnf:nb false=1:=rfl
 have hc:=rdyins12 b1 b3 b5 b6 b7 b8 b9 b10 b11 hcon
 unfold chkins12 at hc
 have hn:(b1 && b3 && b5 && b6 && b7 && b8 && b9 && b10 && b11)=false:=by
  cases hq:(b1 && b3 && b5 && b6 && b7 && b8 && b9 && b10 && b11) with
  | false=>rfl
  | true=>
   simp only [Bool.and_eq_true] at hq
   obtain ⟨⟨⟨⟨⟨⟨⟨⟨rfl,rfl⟩,rfl⟩,rfl⟩,rfl⟩,rfl⟩,rfl⟩,rfl⟩,rfl⟩:=hq
   simp [nb] at hk
 rw [hn] at hc
 obtain ⟨c6,c7,c8,c9,c10,c11⟩:=hcon
 simp only [Bool.false_or,Bool.and_eq_true,List.all_eq_true,Bool.not_eq_true'] at hc
 refine ⟨fun h0=>by rw [h0] at hc; simp at hc,fun i' hi'=>?_⟩
 have hi2:=hc.2 i' hi'
 clear hc hi' hn
 split at hi2
 ·simp only [Bool.not_eq_true'] at hi2
  subst hi2
  have c:=cell_next hi.c4 hM.1
  refine wpOp_one (o:=ogA9) (by rfl) rfl ?_
  unfold ogA9
  generalize hK:(fun a' w'=>Iins12 wA xb i fr k ((arrins12 false b3 b5 b6 b7 b8 b9 b10 b11).setIfInBounds 1 true) a' w')=K
  rw [hfr]
  unfold Oper.wp
  go_simp
  subst hK
  exact ⟨true,b3,b5,b6,b7,b8,b9,b10,b11,by omega,rfl,by rw [hfr]; rfl,hM,⟨by first | exact c6 | exact fun _=>rfl | (intro q; have:=c6 q; simp at this),by first | exact c7 | exact fun _=>rfl | (intro q; have:=c7 q; simp at this),by first | exact c8 | exact fun _=>rfl | (intro q; have:=c8 q; simp at this),by first | exact c9 | exact fun _=>rfl | (intro q; have:=c9 q; simp at this),by first | exact c10 | exact fun _=>rfl | (intro q; have:=c10 q; simp at this),by first | exact c11 | exact fun _=>rfl | (intro q; have:=c11 q; simp at this)⟩⟩
 ·simp only [Bool.not_eq_true'] at hi2
  subst hi2
  have c:=cell_next hi.c1 hM.1
  refine wpOp_one (o:=ogA10) (by rfl) rfl ?_
  unfold ogA10
  generalize hK:(fun a' w'=>Iins12 wA xb i fr k ((arrins12 b1 false b5 b6 b7 b8 b9 b10 b11).setIfInBounds 3 true) a' w')=K
  rw [hfr]
  unfold Oper.wp
  go_simp
  subst hK
  exact ⟨b1,true,b5,b6,b7,b8,b9,b10,b11,by omega,rfl,by rw [hfr]; rfl,hM,⟨by first | exact c6 | exact fun _=>rfl | (intro q; have:=c6 q; simp at this),by first | exact c7 | exact fun _=>rfl | (intro q; have:=c7 q; simp at this),by first | exact c8 | exact fun _=>rfl | (intro q; have:=c8 q; simp at this),by first | exact c9 | exact fun _=>rfl | (intro q; have:=c9 q; simp at this),by first | exact c10 | exact fun _=>rfl | (intro q; have:=c10 q; simp at this),by first | exact c11 | exact fun _=>rfl | (intro q; have:=c11 q; simp at this)⟩⟩
 ·simp only [Bool.not_eq_true'] at hi2
  subst hi2
  have c:=cell_next hi.c5 hM.1
  refine wpOp_one (o:=ogA11) (by rfl) rfl ?_
  unfold ogA11
  generalize hK:(fun a' w'=>Iins12 wA xb i fr k ((arrins12 b1 b3 false b6 b7 b8 b9 b10 b11).setIfInBounds 5 true) a' w')=K
  rw [hfr]
  unfold Oper.wp
  go_simp
  subst hK
  exact ⟨b1,b3,true,b6,b7,b8,b9,b10,b11,by omega,rfl,by rw [hfr]; rfl,hM,⟨by first | exact c6 | exact fun _=>rfl | (intro q; have:=c6 q; simp at this),by first | exact c7 | exact fun _=>rfl | (intro q; have:=c7 q; simp at this),by first | exact c8 | exact fun _=>rfl | (intro q; have:=c8 q; simp at this),by first | exact c9 | exact fun _=>rfl | (intro q; have:=c9 q; simp at this),by first | exact c10 | exact fun _=>rfl | (intro q; have:=c10 q; simp at this),by first | exact c11 | exact fun _=>rfl | (intro q; have:=c11 q; simp at this)⟩⟩
 ·simp only [Bool.and_eq_true,Bool.not_eq_true'] at hi2
  obtain ⟨rfl,rfl⟩:=hi2
  refine wpOp_one (o:=ogA12) (by rfl) rfl ?_
  unfold ogA12
  generalize hK:(fun a' w'=>Iins12 wA xb i fr k ((arrins12 true b3 b5 false b7 b8 b9 b10 b11).setIfInBounds 6 true) a' w')=K
  rw [hfr]
  unfold Oper.wp
  go_simp
  subst hK
  exact ⟨true,b3,b5,true,b7,b8,b9,b10,b11,by omega,rfl,by rw [hfr]; rfl,hM,⟨by first | exact c6 | exact fun _=>rfl | (intro q; have:=c6 q; simp at this),by first | exact c7 | exact fun _=>rfl | (intro q; have:=c7 q; simp at this),by first | exact c8 | exact fun _=>rfl | (intro q; have:=c8 q; simp at this),by first | exact c9 | exact fun _=>rfl | (intro q; have:=c9 q; simp at this),by first | exact c10 | exact fun _=>rfl | (intro q; have:=c10 q; simp at this),by first | exact c11 | exact fun _=>rfl | (intro q; have:=c11 q; simp at this)⟩⟩
 ·simp only [Bool.and_eq_true,Bool.not_eq_true'] at hi2
  obtain ⟨⟨rfl,rfl⟩,rfl⟩:=hi2
  obtain ⟨⟨vo,c⟩,d⟩:=hM.cell 4 (by omega)
  refine wpOp_one (o:=ogA13) (by rfl) rfl ?_
  unfold ogA13
  generalize hK:(fun a' w'=>Iins12 wA xb i fr k ((arrins12 true b3 b5 true false b8 b9 b10 b11).setIfInBounds 7 true) a' w')=K
  rw [hfr]
  unfold Oper.wp
  go_simp
  subst hK
  exact ⟨true,b3,b5,true,true,b8,b9,b10,b11,by omega,rfl,by rw [hfr]; rfl,hM.set4 hx _,⟨by first | exact c6 | exact fun _=>rfl | (intro q; have:=c6 q; simp at this),by first | exact c7 | exact fun _=>rfl | (intro q; have:=c7 q; simp at this),by first | exact c8 | exact fun _=>rfl | (intro q; have:=c8 q; simp at this),by first | exact c9 | exact fun _=>rfl | (intro q; have:=c9 q; simp at this),by first | exact c10 | exact fun _=>rfl | (intro q; have:=c10 q; simp at this),by first | exact c11 | exact fun _=>rfl | (intro q; have:=c11 q; simp at this)⟩⟩
 ·simp only [Bool.and_eq_true,Bool.not_eq_true'] at hi2
  obtain ⟨⟨⟨⟨rfl,rfl⟩,rfl⟩,rfl⟩,rfl⟩:=hi2
  refine wpOp_one (o:=ogA14) (by rfl) rfl ?_
  unfold ogA14
  generalize hK:(fun a' w'=>Iins12 wA xb i fr k ((arrins12 true true b5 true true false b9 b10 b11).setIfInBounds 8 true) a' w')=K
  rw [hfr]
  unfold Oper.wp
  go_simp
  subst hK
  exact ⟨true,true,b5,true,true,true,b9,b10,b11,by omega,rfl,by rw [hfr]; rfl,hM,⟨by first | exact c6 | exact fun _=>rfl | (intro q; have:=c6 q; simp at this),by first | exact c7 | exact fun _=>rfl | (intro q; have:=c7 q; simp at this),by first | exact c8 | exact fun _=>rfl | (intro q; have:=c8 q; simp at this),by first | exact c9 | exact fun _=>rfl | (intro q; have:=c9 q; simp at this),by first | exact c10 | exact fun _=>rfl | (intro q; have:=c10 q; simp at this),by first | exact c11 | exact fun _=>rfl | (intro q; have:=c11 q; simp at this)⟩⟩
 ·simp only [Bool.and_eq_true,Bool.not_eq_true'] at hi2
  obtain ⟨⟨⟨⟨⟨rfl,rfl⟩,rfl⟩,rfl⟩,rfl⟩,rfl⟩:=hi2
  obtain ⟨⟨vo,c⟩,d⟩:=hM.cell 1 (by omega)
  refine wpOp_one (o:=ogA15) (by rfl) rfl ?_
  unfold ogA15
  generalize hK:(fun a' w'=>Iins12 wA xb i fr k ((arrins12 true true b5 true true true false b10 b11).setIfInBounds 9 true) a' w')=K
  rw [hfr]
  unfold Oper.wp
  go_simp
  subst hK
  exact ⟨true,true,b5,true,true,true,true,b10,b11,by omega,rfl,by rw [hfr]; rfl,hM.set1 hx _,⟨by first | exact c6 | exact fun _=>rfl | (intro q; have:=c6 q; simp at this),by first | exact c7 | exact fun _=>rfl | (intro q; have:=c7 q; simp at this),by first | exact c8 | exact fun _=>rfl | (intro q; have:=c8 q; simp at this),by first | exact c9 | exact fun _=>rfl | (intro q; have:=c9 q; simp at this),by first | exact c10 | exact fun _=>rfl | (intro q; have:=c10 q; simp at this),by first | exact c11 | exact fun _=>rfl | (intro q; have:=c11 q; simp at this)⟩⟩
 ·simp only [Bool.and_eq_true,Bool.not_eq_true'] at hi2
  obtain ⟨⟨⟨⟨⟨⟨⟨rfl,rfl⟩,rfl⟩,rfl⟩,rfl⟩,rfl⟩,rfl⟩,rfl⟩:=hi2
  refine wpOp_one (o:=ogA16) (by rfl) rfl ?_
  unfold ogA16
  generalize hK:(fun a' w'=>Iins12 wA xb i fr k ((arrins12 true true true true true true true false b11).setIfInBounds 10 true) a' w')=K
  rw [hfr]
  unfold Oper.wp
  go_simp
  subst hK
  exact ⟨true,true,true,true,true,true,true,true,b11,by omega,rfl,by rw [hfr]; rfl,hM,⟨by first | exact c6 | exact fun _=>rfl | (intro q; have:=c6 q; simp at this),by first | exact c7 | exact fun _=>rfl | (intro q; have:=c7 q; simp at this),by first | exact c8 | exact fun _=>rfl | (intro q; have:=c8 q; simp at this),by first | exact c9 | exact fun _=>rfl | (intro q; have:=c9 q; simp at this),by first | exact c10 | exact fun _=>rfl | (intro q; have:=c10 q; simp at this),by first | exact c11 | exact fun _=>rfl | (intro q; have:=c11 q; simp at this)⟩⟩
 ·simp only [Bool.and_eq_true,Bool.not_eq_true'] at hi2
  obtain ⟨⟨⟨⟨⟨⟨⟨⟨rfl,rfl⟩,rfl⟩,rfl⟩,rfl⟩,rfl⟩,rfl⟩,rfl⟩,rfl⟩:=hi2
  obtain ⟨⟨vo,c⟩,d⟩:=hM.cell 5 (by omega)
  refine wpOp_one (o:=ogA17) (by rfl) rfl ?_
  unfold ogA17
  generalize hK:(fun a' w'=>Iins12 wA xb i fr k ((arrins12 true true true true true true true true false).setIfInBounds 11 true) a' w')=K
  rw [hfr]
  unfold Oper.wp
  go_simp
  subst hK
  exact ⟨true,true,true,true,true,true,true,true,true,by omega,rfl,by rw [hfr]; rfl,hM.set5 hx,⟨by first | exact c6 | exact fun _=>rfl | (intro q; have:=c6 q; simp at this),by first | exact c7 | exact fun _=>rfl | (intro q; have:=c7 q; simp at this),by first | exact c8 | exact fun _=>rfl | (intro q; have:=c8 q; simp at this),by first | exact c9 | exact fun _=>rfl | (intro q; have:=c9 q; simp at this),by first | exact c10 | exact fun _=>rfl | (intro q; have:=c10 q; simp at this),by first | exact c11 | exact fun _=>rfl | (intro q; have:=c11 q; simp at this)⟩⟩
 ·cases hi2
set_option maxRecDepth 100000 in
set_option maxHeartbeats 8000000 in
theorem ins12_l (wA w:World) (ib xb:Nat) (i:Ins) (hi:LCells wA ib 0 i) (hx:wA.heap.size≤xb) (hM:XM wA xb i w) (z0 z1 z2 z4 z5 z6 z7 z8 z9 z11 z12 z13 z14 z15 z16 z17 z18 z19 z20 z21 z22 z23 z24 z25 z26 z27 z28 z29 z30 z31 z32 z33 z34 z35 z36 z37 z38 z39 z40 z41 z42 z43 z44 z45 z46 z47 z48 z49 z50 z51 z52 z53 z54 z55 z56 z57 z58 z59 z60 z61 z62 z63 z64 z65 z66 z67 z68 z69 z70 z71 z72 z73 z74 z75 z76 z77 z78 z79 z80 z81 z82 z83 z84 z85 z86 z87 z88 z89 z90 z91 z92 z93 z94 z95 z96 z97 z98 z99 z100 z101 z102 z103 z104 z105 z106 z107 z108 z109 z110 z111 z112 z113 z114 z115 z116 z117 z118 z119 z120 z121 z122 z123 z124 z125 z126 z127 z128 z129 z130 z131 z132 z133 z134 z135 z136 z137 z138 z139 z140 z141 z142 z143 z144 z145 z146 z147 z148 z149 z150 z151 z152 z153 z154 z155 z156 z157 z158 z159 z160 z161 z162 z163 z164 z165 z166 z167 z168 z169 z170 z171 z172 z173 z174 z175 z176 z177 z178 z179 z180 z181 z182 z183 z184 z185 z186 z187 z188 z189 z190 z191 z192 z193 z194 z195:Value) (Q:Exit→Act→World→Prop)
  (hQp:∀ c (a:Act) (d:Tmp) v w,Q (.panic c) (a.put (some d) v) w→Q (.panic c) a w)
  (hQ:∀ (y78 y79 y80 y81 y82 y83 y84 y85 y86:Value) (W':World),XM wA xb i W'→Q .normal { tmps:=(z0::z1::z2::.pointer (some ⟨ib,0,none⟩)::z4::z5::z6::z7::z8::z9::.pointer (some ⟨xb,0,none⟩)::z11::z12::z13::z14::z15::z16::z17::z18::z19::z20::z21::z22::z23::z24::z25::z26::z27::z28::z29::z30::z31::z32::z33::z34::z35::z36::z37::z38::z39::z40::z41::z42::z43::z44::z45::z46::z47::z48::z49::z50::z51::z52::z53::z54::z55::z56::z57::z58::z59::z60::z61::z62::z63::z64::z65::z66::z67::z68::z69::z70::z71::z72::z73::z74::z75::z76::z77::y78::y79::y80::y81::y82::y83::y84::y85::y86::z87::z88::z89::z90::z91::z92::z93::z94::z95::z96::z97::z98::z99::z100::z101::z102::z103::z104::z105::z106::z107::z108::z109::z110::z111::z112::z113::z114::z115::z116::z117::z118::z119::z120::z121::z122::z123::z124::z125::z126::z127::z128::z129::z130::z131::z132::z133::z134::z135::z136::z137::z138::z139::z140::z141::z142::z143::z144::z145::z146::z147::z148::z149::z150::z151::z152::z153::z154::z155::z156::z157::z158::z159::z160::z161::z162::z163::z164::z165::z166::z167::z168::z169::z170::z171::z172::z173::z174::z175::z176::z177::z178::z179::z180::z181::z182::z183::z184::z185::z186::z187::z188::z189::z190::z191::z192::z193::z194::z195::[]).toArray,defers:=[] } W') :
  Code.wp Try.prog (Code.region 12 rgA1 true) Q { tmps:=(z0::z1::z2::.pointer (some ⟨ib,0,none⟩)::z4::z5::z6::z7::z8::z9::.pointer (some ⟨xb,0,none⟩)::z11::z12::z13::z14::z15::z16::z17::z18::z19::z20::z21::z22::z23::z24::z25::z26::z27::z28::z29::z30::z31::z32::z33::z34::z35::z36::z37::z38::z39::z40::z41::z42::z43::z44::z45::z46::z47::z48::z49::z50::z51::z52::z53::z54::z55::z56::z57::z58::z59::z60::z61::z62::z63::z64::z65::z66::z67::z68::z69::z70::z71::z72::z73::z74::z75::z76::z77::z78::z79::z80::z81::z82::z83::z84::z85::z86::z87::z88::z89::z90::z91::z92::z93::z94::z95::z96::z97::z98::z99::z100::z101::z102::z103::z104::z105::z106::z107::z108::z109::z110::z111::z112::z113::z114::z115::z116::z117::z118::z119::z120::z121::z122::z123::z124::z125::z126::z127::z128::z129::z130::z131::z132::z133::z134::z135::z136::z137::z138::z139::z140::z141::z142::z143::z144::z145::z146::z147::z148::z149::z150::z151::z152::z153::z154::z155::z156::z157::z158::z159::z160::z161::z162::z163::z164::z165::z166::z167::z168::z169::z170::z171::z172::z173::z174::z175::z176::z177::z178::z179::z180::z181::z182::z183::z184::z185::z186::z187::z188::z189::z190::z191::z192::z193::z194::z195::[]).toArray,defers:=[] } w:=by
 unfold rgA1
 refine wp_region_any (by kernel_rfl) ?_
 have hMd:=hM.drew
 clear hM
 change wpAny _ _ _ _ _ _ _ (World.drew _)
 generalize World.drew w=w2 at hMd ⊢
 refine wpAny_take (i:=0) (v:=.pointer (some ⟨ib,4,none⟩)) rfl (by kernel_rfl) (by kernel_rfl) (by kernel_rfl) (fun c a w=>hQp c a _ _ w) (Or.inl ⟨by rfl,?_⟩) ?_
 ·intro w
  go_simp
 refine wpAny_take (i:=2) (v:=.pointer (some ⟨ib,1,none⟩)) rfl (by kernel_rfl) (by kernel_rfl) (by kernel_rfl) (fun c a w=>hQp c a _ _ w) (Or.inl ⟨by rfl,?_⟩) ?_
 ·intro w
  go_simp
 refine wpAny_take (i:=4) (v:=.pointer (some ⟨ib,5,none⟩)) rfl (by kernel_rfl) (by kernel_rfl) (by kernel_rfl) (fun c a w=>hQp c a _ _ w) (Or.inl ⟨by rfl,?_⟩) ?_
 ·intro w
  go_simp
 show wpAny _ _ opsins12 _ (0 + 9) _ _ _
 refine wpAny_inv (I:=Iins12 wA xb i (fun b1 b3 b5 b6 b7 b8 b9 b10 b11=>(z0::z1::z2::.pointer (some ⟨ib,0,none⟩)::z4::z5::z6::z7::z8::z9::.pointer (some ⟨xb,0,none⟩)::z11::z12::z13::z14::z15::z16::z17::z18::z19::z20::z21::z22::z23::z24::z25::z26::z27::z28::z29::z30::z31::z32::z33::z34::z35::z36::z37::z38::z39::z40::z41::z42::z43::z44::z45::z46::z47::z48::z49::z50::z51::z52::z53::z54::z55::z56::z57::z58::z59::z60::z61::z62::z63::z64::z65::z66::z67::z68::z69::z70::z71::z72::z73::z74::z75::z76::z77::.pointer (some ⟨ib,4,none⟩)::(bif b1 then .int .i64 i.l else z79)::.pointer (some ⟨ib,1,none⟩)::(bif b3 then .int .i64 i.m else z81)::.pointer (some ⟨ib,5,none⟩)::(bif b5 then .slice i.a i.E.length i.c else z83)::(bif b6 then .pointer (some ⟨xb,4,none⟩) else z84)::(bif b8 then .pointer (some ⟨xb,1,none⟩) else z85)::(bif b10 then .pointer (some ⟨xb,5,none⟩) else z86)::z87::z88::z89::z90::z91::z92::z93::z94::z95::z96::z97::z98::z99::z100::z101::z102::z103::z104::z105::z106::z107::z108::z109::z110::z111::z112::z113::z114::z115::z116::z117::z118::z119::z120::z121::z122::z123::z124::z125::z126::z127::z128::z129::z130::z131::z132::z133::z134::z135::z136::z137::z138::z139::z140::z141::z142::z143::z144::z145::z146::z147::z148::z149::z150::z151::z152::z153::z154::z155::z156::z157::z158::z159::z160::z161::z162::z163::z164::z165::z166::z167::z168::z169::z170::z171::z172::z173::z174::z175::z176::z177::z178::z179::z180::z181::z182::z183::z184::z185::z186::z187::z188::z189::z190::z191::z192::z193::z194::z195::[]).toArray)) (fun k L a w=>stepins12 wA ib xb i hi hx _ _ _ _ _ _ _ _ _ _ _ _ _ _ _ _ _ _ _ _ _ _ _ _ _ _ _ _ _ _ _ _ _ _ _ _ _ _ _ _ _ _ _ _ _ _ _ _ _ _ _ _ _ _ _ _ _ _ _ _ _ _ _ _ _ _ _ _ _ _ _ _ _ _ _ _ _ _ _ _ _ _ _ _ _ _ _ _ _ _ _ _ _ _ _ _ _ _ _ _ _ _ _ _ _ _ _ _ _ _ _ _ _ _ _ _ _ _ _ _ _ _ _ _ _ _ _ _ _ _ _ _ _ _ _ _ _ _ _ _ _ _ _ _ _ _ _ _ _ _ _ _ _ _ _ _ _ _ _ _ _ _ _ _ _ _ _ _ _ _ _ _ _ _ _ _ _ _ _ _ _ _ _ _ _ _ _ _ _ _ _ _ (fun _ _ _ _ _ _ _ _ _=>rfl) Q k L a w) ?_ 9 _ _ _ ⟨false,false,false,false,false,false,false,false,false,by kernel_rfl,by kernel_rfl,by kernel_rfl,hMd,by simp [conins12]⟩
 rintro L a w1 ⟨b1,b3,b5,b6,b7,b8,b9,b10,b11,hk,rfl,rfl,hM,-⟩
 obtain ⟨rfl,rfl,rfl,rfl,rfl,rfl,rfl,rfl,rfl⟩:b1=true∧b3=true∧b5=true∧b6=true∧b7=true∧b8=true∧b9=true∧b10=true∧b11=true:=⟨nb0 _ (by omega),nb0 _ (by omega),nb0 _ (by omega),nb0 _ (by omega),nb0 _ (by omega),nb0 _ (by omega),nb0 _ (by omega),nb0 _ (by omega),nb0 _ (by omega)⟩
 clear hk
 refine wpAny_done (by kernel_rfl) ?_ _
 exact hQ _ _ _ _ _ _ _ _ _ w1 hM
def opsins18:Array Oper:=rgA2
def arrins18 (b1 b3 b5 b7 b9 b10 b11 b12 b13 b14 b15 b16 b17 b18 b19:Bool):Array Bool:=#[true,b1,true,b3,true,b5,true,b7,true,b9,b10,b11,b12,b13,b14,b15,b16,b17,b18,b19]
def conins18 (b1 b3 b5 b7 b9 b10 b11 b12 b13 b14 b15 b16 b17 b18 b19:Bool):Prop:=(b10=true→(b1)=true)∧(b11=true→(b10)=true)∧(b12=true→(b3 && b11)=true)∧(b13=true→(b12)=true)∧(b14=true→(b5 && b13)=true)∧(b15=true→(b14)=true)∧(b16=true→(b7 && b15)=true)∧(b17=true→(b16)=true)∧(b18=true→(b9 && b17)=true)∧(b19=true→(b18)=true)
def chkins18 (b1 b3 b5 b7 b9 b10 b11 b12 b13 b14 b15 b16 b17 b18 b19:Bool):Bool:=
 let r:=Region.ready .any opsins18 (arrins18 b1 b3 b5 b7 b9 b10 b11 b12 b13 b14 b15 b16 b17 b18 b19)
 (b1 && b3 && b5 && b7 && b9 && b10 && b11 && b12 && b13 && b14 && b15 && b16 && b17 && b18 && b19) || (!r.isEmpty && r.all fun i=>match i with | 1=>!b1 | 3=>!b3 | 5=>!b5 | 7=>!b7 | 9=>!b9 | 10=>b1 && !b10 | 11=>b1 && b10 && !b11 | 12=>b1 && b3 && b10 && b11 && !b12 | 13=>b1 && b3 && b10 && b11 && b12 && !b13 | 14=>b1 && b3 && b5 && b10 && b11 && b12 && b13 && !b14 | 15=>b1 && b3 && b5 && b10 && b11 && b12 && b13 && b14 && !b15 | 16=>b1 && b3 && b5 && b7 && b10 && b11 && b12 && b13 && b14 && b15 && !b16 | 17=>b1 && b3 && b5 && b7 && b10 && b11 && b12 && b13 && b14 && b15 && b16 && !b17 | 18=>b1 && b3 && b5 && b7 && b9 && b10 && b11 && b12 && b13 && b14 && b15 && b16 && b17 && !b18 | 19=>b1 && b3 && b5 && b7 && b9 && b10 && b11 && b12 && b13 && b14 && b15 && b16 && b17 && b18 && !b19 | _=>false)
theorem rdyins18':(allD (true) fun b1=>allD (true) fun b3=>allD (true) fun b5=>allD (true) fun b7=>allD (true) fun b9=>allD (b1) fun b10=>allD (b10) fun b11=>allD (b3 && b11) fun b12=>allD (b12) fun b13=>allD (b5 && b13) fun b14=>allD (b14) fun b15=>allD (b7 && b15) fun b16=>allD (b16) fun b17=>allD (b9 && b17) fun b18=>allD (b18) fun b19=>chkins18 b1 b3 b5 b7 b9 b10 b11 b12 b13 b14 b15 b16 b17 b18 b19)=true:=by kernel_rfl
theorem rdyins18 (b1 b3 b5 b7 b9 b10 b11 b12 b13 b14 b15 b16 b17 b18 b19:Bool) (h:conins18 b1 b3 b5 b7 b9 b10 b11 b12 b13 b14 b15 b16 b17 b18 b19):chkins18 b1 b3 b5 b7 b9 b10 b11 b12 b13 b14 b15 b16 b17 b18 b19=true:=by
 obtain ⟨c10,c11,c12,c13,c14,c15,c16,c17,c18,c19⟩:=h
 exact allD_at (allD_at (allD_at (allD_at (allD_at (allD_at (allD_at (allD_at (allD_at (allD_at (allD_at (allD_at (allD_at (allD_at (allD_at (rdyins18') b1 (fun _=>rfl)) b3 (fun _=>rfl)) b5 (fun _=>rfl)) b7 (fun _=>rfl)) b9 (fun _=>rfl)) b10 c10) b11 c11) b12 c12) b13 c13) b14 c14) b15 c15) b16 c16) b17 c17) b18 c18) b19 c19
namespace SndA
def Iins18 (wA:World) (xb:Nat) (i:Ins) (fr:Bool→Bool→Bool→Bool→Bool→Bool→Bool→Bool→Bool→Bool→Bool→Bool→Bool→Bool→Bool→Array Value) (k:Nat) (L:Array Bool) (a:Act) (w:World):Prop:=
 ∃ (b1 b3 b5 b7 b9 b10 b11 b12 b13 b14 b15 b16 b17 b18 b19:Bool),k=nb b1 + nb b3 + nb b5 + nb b7 + nb b9 + nb b10 + nb b11 + nb b12 + nb b13 + nb b14 + nb b15 + nb b16 + nb b17 + nb b18 + nb b19∧L=arrins18 b1 b3 b5 b7 b9 b10 b11 b12 b13 b14 b15 b16 b17 b18 b19∧a={ tmps:=fr b1 b3 b5 b7 b9 b10 b11 b12 b13 b14 b15 b16 b17 b18 b19,defers:=[] }∧XM wA xb i w∧conins18 b1 b3 b5 b7 b9 b10 b11 b12 b13 b14 b15 b16 b17 b18 b19
end SndA
set_option maxRecDepth 100000 in
set_option maxHeartbeats 8000000 in
theorem stepins18 (wA:World) (ib xb:Nat) (i:Ins) (hi:LCells wA ib 0 i) (hx:wA.heap.size≤xb) (z0 z1 z2 z4 z5 z6 z7 z8 z9 z11 z12 z13 z14 z15 z16 z17 z18 z19 z20 z21 z22 z23 z24 z25 z26 z27 z28 z29 z30 z31 z32 z33 z34 z35 z36 z37 z38 z39 z40 z41 z42 z43 z44 z45 z46 z47 z48 z49 z50 z51 z52 z53 z54 z55 z56 z57 z58 z59 z60 z61 z62 z63 z64 z65 z66 z67 z68 z69 z70 z71 z72 z73 z74 z75 z76 z77 z78 z79 z80 z81 z82 z83 z84 z85 z86 z87 z88 z89 z90 z91 z92 z93 z94 z95 z96 z97 z98 z99 z100 z101 z102 z103 z104 z105 z106 z107 z108 z109 z110 z111 z112 z113 z114 z115 z116 z117 z118 z119 z120 z121 z122 z123 z124 z125 z126 z127 z128 z129 z130 z131 z132 z133 z134 z135 z136 z137 z138 z139 z140 z141 z142 z144 z146 z148 z150 z152 z153 z154 z155 z156 z157 z158 z159 z160 z161 z162 z163 z164 z165 z166 z167 z168 z169 z170 z171 z172 z173 z174 z175 z176 z177 z178 z179 z180 z181 z182 z183 z184 z185 z186 z187 z188 z189 z190 z191 z192 z193 z194 z195:Value) (fr:Bool→Bool→Bool→Bool→Bool→Bool→Bool→Bool→Bool→Bool→Bool→Bool→Bool→Bool→Bool→Array Value) (hfr:∀ b1 b3 b5 b7 b9 b10 b11 b12 b13 b14 b15 b16 b17 b18 b19,fr b1 b3 b5 b7 b9 b10 b11 b12 b13 b14 b15 b16 b17 b18 b19=(z0::z1::z2::.pointer (some ⟨ib,0,none⟩)::z4::z5::z6::z7::z8::z9::.pointer (some ⟨xb,0,none⟩)::z11::z12::z13::z14::z15::z16::z17::z18::z19::z20::z21::z22::z23::z24::z25::z26::z27::z28::z29::z30::z31::z32::z33::z34::z35::z36::z37::z38::z39::z40::z41::z42::z43::z44::z45::z46::z47::z48::z49::z50::z51::z52::z53::z54::z55::z56::z57::z58::z59::z60::z61::z62::z63::z64::z65::z66::z67::z68::z69::z70::z71::z72::z73::z74::z75::z76::z77::z78::z79::z80::z81::z82::z83::z84::z85::z86::z87::z88::z89::z90::z91::z92::z93::z94::z95::z96::z97::z98::z99::z100::z101::z102::z103::z104::z105::z106::z107::z108::z109::z110::z111::z112::z113::z114::z115::z116::z117::z118::z119::z120::z121::z122::z123::z124::z125::z126::z127::z128::z129::z130::z131::z132::z133::z134::z135::z136::z137::z138::z139::z140::z141::z142::.pointer (some ⟨ib,3,none⟩)::(bif b1 then .int .i64 i.r else z144)::.pointer (some ⟨ib,4,none⟩)::(bif b3 then .int .i64 i.l else z146)::.pointer (some ⟨ib,1,none⟩)::(bif b5 then .int .i64 i.m else z148)::.pointer (some ⟨ib,2,none⟩)::(bif b7 then .int .i64 i.m2 else z150)::.pointer (some ⟨ib,5,none⟩)::(bif b9 then .slice i.a i.E.length i.c else z152)::(bif b10 then .pointer (some ⟨xb,3,none⟩) else z153)::(bif b12 then .pointer (some ⟨xb,4,none⟩) else z154)::(bif b14 then .pointer (some ⟨xb,1,none⟩) else z155)::(bif b16 then .pointer (some ⟨xb,2,none⟩) else z156)::(bif b18 then .pointer (some ⟨xb,5,none⟩) else z157)::z158::z159::z160::z161::z162::z163::z164::z165::z166::z167::z168::z169::z170::z171::z172::z173::z174::z175::z176::z177::z178::z179::z180::z181::z182::z183::z184::z185::z186::z187::z188::z189::z190::z191::z192::z193::z194::z195::[]).toArray) (Q:Exit→Act→World→Prop) (k:Nat) (L:Array Bool) (a:Act) (w:World) (h:Iins18 wA xb i fr (k + 1) L a w) :
  Region.ready .any opsins18 L ≠ []∧∀ i' ∈ Region.ready .any opsins18 L,wpOp Try.prog opsins18 Q i' (fun a' w'=>Iins18 wA xb i fr k (L.setIfInBounds i' true) a' w') a w:=by
 obtain ⟨b1,b3,b5,b7,b9,b10,b11,b12,b13,b14,b15,b16,b17,b18,b19,hk,rfl,rfl,hM,hcon⟩:=h
 have hnt:nb true=0:=rfl
 have hnf:nb false=1:=rfl
 have hc:=rdyins18 b1 b3 b5 b7 b9 b10 b11 b12 b13 b14 b15 b16 b17 b18 b19 hcon
 unfold chkins18 at hc
 have hn:(b1 && b3 && b5 && b7 && b9 && b10 && b11 && b12 && b13 && b14 && b15 && b16 && b17 && b18 && b19)=false:=by
  cases hq:(b1 && b3 && b5 && b7 && b9 && b10 && b11 && b12 && b13 && b14 && b15 && b16 && b17 && b18 && b19) with
  | false=>rfl
  | true=>
   simp only [Bool.and_eq_true] at hq
   obtain ⟨⟨⟨⟨⟨⟨⟨⟨⟨⟨⟨⟨⟨⟨rfl,rfl⟩,rfl⟩,rfl⟩,rfl⟩,rfl⟩,rfl⟩,rfl⟩,rfl⟩,rfl⟩,rfl⟩,rfl⟩,rfl⟩,rfl⟩,rfl⟩:=hq
   simp [nb] at hk
 rw [hn] at hc
 obtain ⟨c10,c11,c12,c13,c14,c15,c16,c17,c18,c19⟩:=hcon
 simp only [Bool.false_or,Bool.and_eq_true,List.all_eq_true,Bool.not_eq_true'] at hc
 refine ⟨fun h0=>by rw [h0] at hc; simp at hc,fun i' hi'=>?_⟩
 have hi2:=hc.2 i' hi'
 clear hc hi' hn
 split at hi2
 ·simp only [Bool.not_eq_true'] at hi2
  subst hi2
  have c:=cell_next hi.c3 hM.1
  refine wpOp_one (o:=ogA18) (by rfl) rfl ?_
  unfold ogA18
  generalize hK:(fun a' w'=>Iins18 wA xb i fr k ((arrins18 false b3 b5 b7 b9 b10 b11 b12 b13 b14 b15 b16 b17 b18 b19).setIfInBounds 1 true) a' w')=K
  rw [hfr]
  unfold Oper.wp
  go_simp
  subst hK
  exact ⟨true,b3,b5,b7,b9,b10,b11,b12,b13,b14,b15,b16,b17,b18,b19,by omega,rfl,by rw [hfr]; rfl,hM,⟨by first | exact c10 | exact fun _=>rfl | (intro q; have:=c10 q; simp at this),by first | exact c11 | exact fun _=>rfl | (intro q; have:=c11 q; simp at this),by first | exact c12 | exact fun _=>rfl | (intro q; have:=c12 q; simp at this),by first | exact c13 | exact fun _=>rfl | (intro q; have:=c13 q; simp at this),by first | exact c14 | exact fun _=>rfl | (intro q; have:=c14 q; simp at this),by first | exact c15 | exact fun _=>rfl | (intro q; have:=c15 q; simp at this),by first | exact c16 | exact fun _=>rfl | (intro q; have:=c16 q; simp at this),by first | exact c17 | exact fun _=>rfl | (intro q; have:=c17 q; simp at this),by first | exact c18 | exact fun _=>rfl | (intro q; have:=c18 q; simp at this),by first | exact c19 | exact fun _=>rfl | (intro q; have:=c19 q; simp at this)⟩⟩
 ·simp only [Bool.not_eq_true'] at hi2
  subst hi2
  have c:=cell_next hi.c4 hM.1
  refine wpOp_one (o:=ogA19) (by rfl) rfl ?_
  unfold ogA19
  generalize hK:(fun a' w'=>Iins18 wA xb i fr k ((arrins18 b1 false b5 b7 b9 b10 b11 b12 b13 b14 b15 b16 b17 b18 b19).setIfInBounds 3 true) a' w')=K
  rw [hfr]
  unfold Oper.wp
  go_simp
  subst hK
  exact ⟨b1,true,b5,b7,b9,b10,b11,b12,b13,b14,b15,b16,b17,b18,b19,by omega,rfl,by rw [hfr]; rfl,hM,⟨by first | exact c10 | exact fun _=>rfl | (intro q; have:=c10 q; simp at this),by first | exact c11 | exact fun _=>rfl | (intro q; have:=c11 q; simp at this),by first | exact c12 | exact fun _=>rfl | (intro q; have:=c12 q; simp at this),by first | exact c13 | exact fun _=>rfl | (intro q; have:=c13 q; simp at this),by first | exact c14 | exact fun _=>rfl | (intro q; have:=c14 q; simp at this),by first | exact c15 | exact fun _=>rfl | (intro q; have:=c15 q; simp at this),by first | exact c16 | exact fun _=>rfl | (intro q; have:=c16 q; simp at this),by first | exact c17 | exact fun _=>rfl | (intro q; have:=c17 q; simp at this),by first | exact c18 | exact fun _=>rfl | (intro q; have:=c18 q; simp at this),by first | exact c19 | exact fun _=>rfl | (intro q; have:=c19 q; simp at this)⟩⟩
 ·simp only [Bool.not_eq_true'] at hi2
  subst hi2
  have c:=cell_next hi.c1 hM.1
  refine wpOp_one (o:=ogA20) (by rfl) rfl ?_
  unfold ogA20
  generalize hK:(fun a' w'=>Iins18 wA xb i fr k ((arrins18 b1 b3 false b7 b9 b10 b11 b12 b13 b14 b15 b16 b17 b18 b19).setIfInBounds 5 true) a' w')=K
  rw [hfr]
  unfold Oper.wp
  go_simp
  subst hK
  exact ⟨b1,b3,true,b7,b9,b10,b11,b12,b13,b14,b15,b16,b17,b18,b19,by omega,rfl,by rw [hfr]; rfl,hM,⟨by first | exact c10 | exact fun _=>rfl | (intro q; have:=c10 q; simp at this),by first | exact c11 | exact fun _=>rfl | (intro q; have:=c11 q; simp at this),by first | exact c12 | exact fun _=>rfl | (intro q; have:=c12 q; simp at this),by first | exact c13 | exact fun _=>rfl | (intro q; have:=c13 q; simp at this),by first | exact c14 | exact fun _=>rfl | (intro q; have:=c14 q; simp at this),by first | exact c15 | exact fun _=>rfl | (intro q; have:=c15 q; simp at this),by first | exact c16 | exact fun _=>rfl | (intro q; have:=c16 q; simp at this),by first | exact c17 | exact fun _=>rfl | (intro q; have:=c17 q; simp at this),by first | exact c18 | exact fun _=>rfl | (intro q; have:=c18 q; simp at this),by first | exact c19 | exact fun _=>rfl | (intro q; have:=c19 q; simp at this)⟩⟩
 ·simp only [Bool.not_eq_true'] at hi2
  subst hi2
  have c:=cell_next hi.c2 hM.1
  refine wpOp_one (o:=ogA21) (by rfl) rfl ?_
  unfold ogA21
  generalize hK:(fun a' w'=>Iins18 wA xb i fr k ((arrins18 b1 b3 b5 false b9 b10 b11 b12 b13 b14 b15 b16 b17 b18 b19).setIfInBounds 7 true) a' w')=K
  rw [hfr]
  unfold Oper.wp
  go_simp
  subst hK
  exact ⟨b1,b3,b5,true,b9,b10,b11,b12,b13,b14,b15,b16,b17,b18,b19,by omega,rfl,by rw [hfr]; rfl,hM,⟨by first | exact c10 | exact fun _=>rfl | (intro q; have:=c10 q; simp at this),by first | exact c11 | exact fun _=>rfl | (intro q; have:=c11 q; simp at this),by first | exact c12 | exact fun _=>rfl | (intro q; have:=c12 q; simp at this),by first | exact c13 | exact fun _=>rfl | (intro q; have:=c13 q; simp at this),by first | exact c14 | exact fun _=>rfl | (intro q; have:=c14 q; simp at this),by first | exact c15 | exact fun _=>rfl | (intro q; have:=c15 q; simp at this),by first | exact c16 | exact fun _=>rfl | (intro q; have:=c16 q; simp at this),by first | exact c17 | exact fun _=>rfl | (intro q; have:=c17 q; simp at this),by first | exact c18 | exact fun _=>rfl | (intro q; have:=c18 q; simp at this),by first | exact c19 | exact fun _=>rfl | (intro q; have:=c19 q; simp at this)⟩⟩
 ·simp only [Bool.not_eq_true'] at hi2
  subst hi2
  have c:=cell_next hi.c5 hM.1
  refine wpOp_one (o:=ogA22) (by rfl) rfl ?_
  unfold ogA22
  generalize hK:(fun a' w'=>Iins18 wA xb i fr k ((arrins18 b1 b3 b5 b7 false b10 b11 b12 b13 b14 b15 b16 b17 b18 b19).setIfInBounds 9 true) a' w')=K
  rw [hfr]
  unfold Oper.wp
  go_simp
  subst hK
  exact ⟨b1,b3,b5,b7,true,b10,b11,b12,b13,b14,b15,b16,b17,b18,b19,by omega,rfl,by rw [hfr]; rfl,hM,⟨by first | exact c10 | exact fun _=>rfl | (intro q; have:=c10 q; simp at this),by first | exact c11 | exact fun _=>rfl | (intro q; have:=c11 q; simp at this),by first | exact c12 | exact fun _=>rfl | (intro q; have:=c12 q; simp at this),by first | exact c13 | exact fun _=>rfl | (intro q; have:=c13 q; simp at this),by first | exact c14 | exact fun _=>rfl | (intro q; have:=c14 q; simp at this),by first | exact c15 | exact fun _=>rfl | (intro q; have:=c15 q; simp at this),by first | exact c16 | exact fun _=>rfl | (intro q; have:=c16 q; simp at this),by first | exact c17 | exact fun _=>rfl | (intro q; have:=c17 q; simp at this),by first | exact c18 | exact fun _=>rfl | (intro q; have:=c18 q; simp at this),by first | exact c19 | exact fun _=>rfl | (intro q; have:=c19 q; simp at this)⟩⟩
 ·simp only [Bool.and_eq_true,Bool.not_eq_true'] at hi2
  obtain ⟨rfl,rfl⟩:=hi2
  refine wpOp_one (o:=ogA23) (by rfl) rfl ?_
  unfold ogA23
  generalize hK:(fun a' w'=>Iins18 wA xb i fr k ((arrins18 true b3 b5 b7 b9 false b11 b12 b13 b14 b15 b16 b17 b18 b19).setIfInBounds 10 true) a' w')=K
  rw [hfr]
  unfold Oper.wp
  go_simp
  subst hK
  exact ⟨true,b3,b5,b7,b9,true,b11,b12,b13,b14,b15,b16,b17,b18,b19,by omega,rfl,by rw [hfr]; rfl,hM,⟨by first | exact c10 | exact fun _=>rfl | (intro q; have:=c10 q; simp at this),by first | exact c11 | exact fun _=>rfl | (intro q; have:=c11 q; simp at this),by first | exact c12 | exact fun _=>rfl | (intro q; have:=c12 q; simp at this),by first | exact c13 | exact fun _=>rfl | (intro q; have:=c13 q; simp at this),by first | exact c14 | exact fun _=>rfl | (intro q; have:=c14 q; simp at this),by first | exact c15 | exact fun _=>rfl | (intro q; have:=c15 q; simp at this),by first | exact c16 | exact fun _=>rfl | (intro q; have:=c16 q; simp at this),by first | exact c17 | exact fun _=>rfl | (intro q; have:=c17 q; simp at this),by first | exact c18 | exact fun _=>rfl | (intro q; have:=c18 q; simp at this),by first | exact c19 | exact fun _=>rfl | (intro q; have:=c19 q; simp at this)⟩⟩
 ·simp only [Bool.and_eq_true,Bool.not_eq_true'] at hi2
  obtain ⟨⟨rfl,rfl⟩,rfl⟩:=hi2
  obtain ⟨⟨vo,c⟩,d⟩:=hM.cell 3 (by omega)
  refine wpOp_one (o:=ogA24) (by rfl) rfl ?_
  unfold ogA24
  generalize hK:(fun a' w'=>Iins18 wA xb i fr k ((arrins18 true b3 b5 b7 b9 true false b12 b13 b14 b15 b16 b17 b18 b19).setIfInBounds 11 true) a' w')=K
  rw [hfr]
  unfold Oper.wp
  go_simp
  subst hK
  exact ⟨true,b3,b5,b7,b9,true,true,b12,b13,b14,b15,b16,b17,b18,b19,by omega,rfl,by rw [hfr]; rfl,hM.set3 hx _,⟨by first | exact c10 | exact fun _=>rfl | (intro q; have:=c10 q; simp at this),by first | exact c11 | exact fun _=>rfl | (intro q; have:=c11 q; simp at this),by first | exact c12 | exact fun _=>rfl | (intro q; have:=c12 q; simp at this),by first | exact c13 | exact fun _=>rfl | (intro q; have:=c13 q; simp at this),by first | exact c14 | exact fun _=>rfl | (intro q; have:=c14 q; simp at this),by first | exact c15 | exact fun _=>rfl | (intro q; have:=c15 q; simp at this),by first | exact c16 | exact fun _=>rfl | (intro q; have:=c16 q; simp at this),by first | exact c17 | exact fun _=>rfl | (intro q; have:=c17 q; simp at this),by first | exact c18 | exact fun _=>rfl | (intro q; have:=c18 q; simp at this),by first | exact c19 | exact fun _=>rfl | (intro q; have:=c19 q; simp at this)⟩⟩
 ·simp only [Bool.and_eq_true,Bool.not_eq_true'] at hi2
  obtain ⟨⟨⟨⟨rfl,rfl⟩,rfl⟩,rfl⟩,rfl⟩:=hi2
  refine wpOp_one (o:=ogA25) (by rfl) rfl ?_
  unfold ogA25
  generalize hK:(fun a' w'=>Iins18 wA xb i fr k ((arrins18 true true b5 b7 b9 true true false b13 b14 b15 b16 b17 b18 b19).setIfInBounds 12 true) a' w')=K
  rw [hfr]
  unfold Oper.wp
  go_simp
  subst hK
  exact ⟨true,true,b5,b7,b9,true,true,true,b13,b14,b15,b16,b17,b18,b19,by omega,rfl,by rw [hfr]; rfl,hM,⟨by first | exact c10 | exact fun _=>rfl | (intro q; have:=c10 q; simp at this),by first | exact c11 | exact fun _=>rfl | (intro q; have:=c11 q; simp at this),by first | exact c12 | exact fun _=>rfl | (intro q; have:=c12 q; simp at this),by first | exact c13 | exact fun _=>rfl | (intro q; have:=c13 q; simp at this),by first | exact c14 | exact fun _=>rfl | (intro q; have:=c14 q; simp at this),by first | exact c15 | exact fun _=>rfl | (intro q; have:=c15 q; simp at this),by first | exact c16 | exact fun _=>rfl | (intro q; have:=c16 q; simp at this),by first | exact c17 | exact fun _=>rfl | (intro q; have:=c17 q; simp at this),by first | exact c18 | exact fun _=>rfl | (intro q; have:=c18 q; simp at this),by first | exact c19 | exact fun _=>rfl | (intro q; have:=c19 q; simp at this)⟩⟩
 ·simp only [Bool.and_eq_true,Bool.not_eq_true'] at hi2
  obtain ⟨⟨⟨⟨⟨rfl,rfl⟩,rfl⟩,rfl⟩,rfl⟩,rfl⟩:=hi2
  obtain ⟨⟨vo,c⟩,d⟩:=hM.cell 4 (by omega)
  refine wpOp_one (o:=ogA26) (by rfl) rfl ?_
  unfold ogA26
  generalize hK:(fun a' w'=>Iins18 wA xb i fr k ((arrins18 true true b5 b7 b9 true true true false b14 b15 b16 b17 b18 b19).setIfInBounds 13 true) a' w')=K
  rw [hfr]
  unfold Oper.wp
  go_simp
  subst hK
  exact ⟨true,true,b5,b7,b9,true,true,true,true,b14,b15,b16,b17,b18,b19,by omega,rfl,by rw [hfr]; rfl,hM.set4 hx _,⟨by first | exact c10 | exact fun _=>rfl | (intro q; have:=c10 q; simp at this),by first | exact c11 | exact fun _=>rfl | (intro q; have:=c11 q; simp at this),by first | exact c12 | exact fun _=>rfl | (intro q; have:=c12 q; simp at this),by first | exact c13 | exact fun _=>rfl | (intro q; have:=c13 q; simp at this),by first | exact c14 | exact fun _=>rfl | (intro q; have:=c14 q; simp at this),by first | exact c15 | exact fun _=>rfl | (intro q; have:=c15 q; simp at this),by first | exact c16 | exact fun _=>rfl | (intro q; have:=c16 q; simp at this),by first | exact c17 | exact fun _=>rfl | (intro q; have:=c17 q; simp at this),by first | exact c18 | exact fun _=>rfl | (intro q; have:=c18 q; simp at this),by first | exact c19 | exact fun _=>rfl | (intro q; have:=c19 q; simp at this)⟩⟩
 ·simp only [Bool.and_eq_true,Bool.not_eq_true'] at hi2
  obtain ⟨⟨⟨⟨⟨⟨⟨rfl,rfl⟩,rfl⟩,rfl⟩,rfl⟩,rfl⟩,rfl⟩,rfl⟩:=hi2
  refine wpOp_one (o:=ogA27) (by rfl) rfl ?_
  unfold ogA27
  generalize hK:(fun a' w'=>Iins18 wA xb i fr k ((arrins18 true true true b7 b9 true true true true false b15 b16 b17 b18 b19).setIfInBounds 14 true) a' w')=K
  rw [hfr]
  unfold Oper.wp
  go_simp
  subst hK
  exact ⟨true,true,true,b7,b9,true,true,true,true,true,b15,b16,b17,b18,b19,by omega,rfl,by rw [hfr]; rfl,hM,⟨by first | exact c10 | exact fun _=>rfl | (intro q; have:=c10 q; simp at this),by first | exact c11 | exact fun _=>rfl | (intro q; have:=c11 q; simp at this),by first | exact c12 | exact fun _=>rfl | (intro q; have:=c12 q; simp at this),by first | exact c13 | exact fun _=>rfl | (intro q; have:=c13 q; simp at this),by first | exact c14 | exact fun _=>rfl | (intro q; have:=c14 q; simp at this),by first | exact c15 | exact fun _=>rfl | (intro q; have:=c15 q; simp at this),by first | exact c16 | exact fun _=>rfl | (intro q; have:=c16 q; simp at this),by first | exact c17 | exact fun _=>rfl | (intro q; have:=c17 q; simp at this),by first | exact c18 | exact fun _=>rfl | (intro q; have:=c18 q; simp at this),by first | exact c19 | exact fun _=>rfl | (intro q; have:=c19 q; simp at this)⟩⟩
 ·simp only [Bool.and_eq_true,Bool.not_eq_true'] at hi2
  obtain ⟨⟨⟨⟨⟨⟨⟨⟨rfl,rfl⟩,rfl⟩,rfl⟩,rfl⟩,rfl⟩,rfl⟩,rfl⟩,rfl⟩:=hi2
  obtain ⟨⟨vo,c⟩,d⟩:=hM.cell 1 (by omega)
  refine wpOp_one (o:=ogA28) (by rfl) rfl ?_
  unfold ogA28
  generalize hK:(fun a' w'=>Iins18 wA xb i fr k ((arrins18 true true true b7 b9 true true true true true false b16 b17 b18 b19).setIfInBounds 15 true) a' w')=K
  rw [hfr]
  unfold Oper.wp
  go_simp
  subst hK
  exact ⟨true,true,true,b7,b9,true,true,true,true,true,true,b16,b17,b18,b19,by omega,rfl,by rw [hfr]; rfl,hM.set1 hx _,⟨by first | exact c10 | exact fun _=>rfl | (intro q; have:=c10 q; simp at this),by first | exact c11 | exact fun _=>rfl | (intro q; have:=c11 q; simp at this),by first | exact c12 | exact fun _=>rfl | (intro q; have:=c12 q; simp at this),by first | exact c13 | exact fun _=>rfl | (intro q; have:=c13 q; simp at this),by first | exact c14 | exact fun _=>rfl | (intro q; have:=c14 q; simp at this),by first | exact c15 | exact fun _=>rfl | (intro q; have:=c15 q; simp at this),by first | exact c16 | exact fun _=>rfl | (intro q; have:=c16 q; simp at this),by first | exact c17 | exact fun _=>rfl | (intro q; have:=c17 q; simp at this),by first | exact c18 | exact fun _=>rfl | (intro q; have:=c18 q; simp at this),by first | exact c19 | exact fun _=>rfl | (intro q; have:=c19 q; simp at this)⟩⟩
 ·simp only [Bool.and_eq_true,Bool.not_eq_true'] at hi2
  obtain ⟨⟨⟨⟨⟨⟨⟨⟨⟨⟨rfl,rfl⟩,rfl⟩,rfl⟩,rfl⟩,rfl⟩,rfl⟩,rfl⟩,rfl⟩,rfl⟩,rfl⟩:=hi2
  refine wpOp_one (o:=ogA29) (by rfl) rfl ?_
  unfold ogA29
  generalize hK:(fun a' w'=>Iins18 wA xb i fr k ((arrins18 true true true true b9 true true true true true true false b17 b18 b19).setIfInBounds 16 true) a' w')=K
  rw [hfr]
  unfold Oper.wp
  go_simp
  subst hK
  exact ⟨true,true,true,true,b9,true,true,true,true,true,true,true,b17,b18,b19,by omega,rfl,by rw [hfr]; rfl,hM,⟨by first | exact c10 | exact fun _=>rfl | (intro q; have:=c10 q; simp at this),by first | exact c11 | exact fun _=>rfl | (intro q; have:=c11 q; simp at this),by first | exact c12 | exact fun _=>rfl | (intro q; have:=c12 q; simp at this),by first | exact c13 | exact fun _=>rfl | (intro q; have:=c13 q; simp at this),by first | exact c14 | exact fun _=>rfl | (intro q; have:=c14 q; simp at this),by first | exact c15 | exact fun _=>rfl | (intro q; have:=c15 q; simp at this),by first | exact c16 | exact fun _=>rfl | (intro q; have:=c16 q; simp at this),by first | exact c17 | exact fun _=>rfl | (intro q; have:=c17 q; simp at this),by first | exact c18 | exact fun _=>rfl | (intro q; have:=c18 q; simp at this),by first | exact c19 | exact fun _=>rfl | (intro q; have:=c19 q; simp at this)⟩⟩
 ·simp only [Bool.and_eq_true,Bool.not_eq_true'] at hi2
  obtain ⟨⟨⟨⟨⟨⟨⟨⟨⟨⟨⟨rfl,rfl⟩,rfl⟩,rfl⟩,rfl⟩,rfl⟩,rfl⟩,rfl⟩,rfl⟩,rfl⟩,rfl⟩,rfl⟩:=hi2
  obtain ⟨⟨vo,c⟩,d⟩:=hM.cell 2 (by omega)
  refine wpOp_one (o:=ogA30) (by rfl) rfl ?_
  unfold ogA30
  generalize hK:(fun a' w'=>Iins18 wA xb i fr k ((arrins18 true true true true b9 true true true true true true true false b18 b19).setIfInBounds 17 true) a' w')=K
  rw [hfr]
  unfold Oper.wp
  go_simp
  subst hK
  exact ⟨true,true,true,true,b9,true,true,true,true,true,true,true,true,b18,b19,by omega,rfl,by rw [hfr]; rfl,hM.set2 hx _,⟨by first | exact c10 | exact fun _=>rfl | (intro q; have:=c10 q; simp at this),by first | exact c11 | exact fun _=>rfl | (intro q; have:=c11 q; simp at this),by first | exact c12 | exact fun _=>rfl | (intro q; have:=c12 q; simp at this),by first | exact c13 | exact fun _=>rfl | (intro q; have:=c13 q; simp at this),by first | exact c14 | exact fun _=>rfl | (intro q; have:=c14 q; simp at this),by first | exact c15 | exact fun _=>rfl | (intro q; have:=c15 q; simp at this),by first | exact c16 | exact fun _=>rfl | (intro q; have:=c16 q; simp at this),by first | exact c17 | exact fun _=>rfl | (intro q; have:=c17 q; simp at this),by first | exact c18 | exact fun _=>rfl | (intro q; have:=c18 q; simp at this),by first | exact c19 | exact fun _=>rfl | (intro q; have:=c19 q; simp at this)⟩⟩
 ·simp only [Bool.and_eq_true,Bool.not_eq_true'] at hi2
  obtain ⟨⟨⟨⟨⟨⟨⟨⟨⟨⟨⟨⟨⟨rfl,rfl⟩,rfl⟩,rfl⟩,rfl⟩,rfl⟩,rfl⟩,rfl⟩,rfl⟩,rfl⟩,rfl⟩,rfl⟩,rfl⟩,rfl⟩:=hi2
  refine wpOp_one (o:=ogA31) (by rfl) rfl ?_
  unfold ogA31
  generalize hK:(fun a' w'=>Iins18 wA xb i fr k ((arrins18 true true true true true true true true true true true true true false b19).setIfInBounds 18 true) a' w')=K
  rw [hfr]
  unfold Oper.wp
  go_simp
  subst hK
  exact ⟨true,true,true,true,true,true,true,true,true,true,true,true,true,true,b19,by omega,rfl,by rw [hfr]; rfl,hM,⟨by first | exact c10 | exact fun _=>rfl | (intro q; have:=c10 q; simp at this),by first | exact c11 | exact fun _=>rfl | (intro q; have:=c11 q; simp at this),by first | exact c12 | exact fun _=>rfl | (intro q; have:=c12 q; simp at this),by first | exact c13 | exact fun _=>rfl | (intro q; have:=c13 q; simp at this),by first | exact c14 | exact fun _=>rfl | (intro q; have:=c14 q; simp at this),by first | exact c15 | exact fun _=>rfl | (intro q; have:=c15 q; simp at this),by first | exact c16 | exact fun _=>rfl | (intro q; have:=c16 q; simp at this),by first | exact c17 | exact fun _=>rfl | (intro q; have:=c17 q; simp at this),by first | exact c18 | exact fun _=>rfl | (intro q; have:=c18 q; simp at this),by first | exact c19 | exact fun _=>rfl | (intro q; have:=c19 q; simp at this)⟩⟩
 ·simp only [Bool.and_eq_true,Bool.not_eq_true'] at hi2
  obtain ⟨⟨⟨⟨⟨⟨⟨⟨⟨⟨⟨⟨⟨⟨rfl,rfl⟩,rfl⟩,rfl⟩,rfl⟩,rfl⟩,rfl⟩,rfl⟩,rfl⟩,rfl⟩,rfl⟩,rfl⟩,rfl⟩,rfl⟩,rfl⟩:=hi2
  obtain ⟨⟨vo,c⟩,d⟩:=hM.cell 5 (by omega)
  refine wpOp_one (o:=ogA32) (by rfl) rfl ?_
  unfold ogA32
  generalize hK:(fun a' w'=>Iins18 wA xb i fr k ((arrins18 true true true true true true true true true true true true true true false).setIfInBounds 19 true) a' w')=K
  rw [hfr]
  unfold Oper.wp
  go_simp
  subst hK
  exact ⟨true,true,true,true,true,true,true,true,true,true,true,true,true,true,true,by omega,rfl,by rw [hfr]; rfl,hM.set5 hx,⟨by first | exact c10 | exact fun _=>rfl | (intro q; have:=c10 q; simp at this),by first | exact c11 | exact fun _=>rfl | (intro q; have:=c11 q; simp at this),by first | exact c12 | exact fun _=>rfl | (intro q; have:=c12 q; simp at this),by first | exact c13 | exact fun _=>rfl | (intro q; have:=c13 q; simp at this),by first | exact c14 | exact fun _=>rfl | (intro q; have:=c14 q; simp at this),by first | exact c15 | exact fun _=>rfl | (intro q; have:=c15 q; simp at this),by first | exact c16 | exact fun _=>rfl | (intro q; have:=c16 q; simp at this),by first | exact c17 | exact fun _=>rfl | (intro q; have:=c17 q; simp at this),by first | exact c18 | exact fun _=>rfl | (intro q; have:=c18 q; simp at this),by first | exact c19 | exact fun _=>rfl | (intro q; have:=c19 q; simp at this)⟩⟩
 ·cases hi2
set_option maxRecDepth 100000 in
set_option maxHeartbeats 8000000 in
theorem ins18_l (wA w:World) (ib xb:Nat) (i:Ins) (hi:LCells wA ib 0 i) (hx:wA.heap.size≤xb) (hM:XM wA xb i w) (z0 z1 z2 z4 z5 z6 z7 z8 z9 z11 z12 z13 z14 z15 z16 z17 z18 z19 z20 z21 z22 z23 z24 z25 z26 z27 z28 z29 z30 z31 z32 z33 z34 z35 z36 z37 z38 z39 z40 z41 z42 z43 z44 z45 z46 z47 z48 z49 z50 z51 z52 z53 z54 z55 z56 z57 z58 z59 z60 z61 z62 z63 z64 z65 z66 z67 z68 z69 z70 z71 z72 z73 z74 z75 z76 z77 z78 z79 z80 z81 z82 z83 z84 z85 z86 z87 z88 z89 z90 z91 z92 z93 z94 z95 z96 z97 z98 z99 z100 z101 z102 z103 z104 z105 z106 z107 z108 z109 z110 z111 z112 z113 z114 z115 z116 z117 z118 z119 z120 z121 z122 z123 z124 z125 z126 z127 z128 z129 z130 z131 z132 z133 z134 z135 z136 z137 z138 z139 z140 z141 z142 z143 z144 z145 z146 z147 z148 z149 z150 z151 z152 z153 z154 z155 z156 z157 z158 z159 z160 z161 z162 z163 z164 z165 z166 z167 z168 z169 z170 z171 z172 z173 z174 z175 z176 z177 z178 z179 z180 z181 z182 z183 z184 z185 z186 z187 z188 z189 z190 z191 z192 z193 z194 z195:Value) (Q:Exit→Act→World→Prop)
  (hQp:∀ c (a:Act) (d:Tmp) v w,Q (.panic c) (a.put (some d) v) w→Q (.panic c) a w)
  (hQ:∀ (y143 y144 y145 y146 y147 y148 y149 y150 y151 y152 y153 y154 y155 y156 y157:Value) (W':World),XM wA xb i W'→Q .normal { tmps:=(z0::z1::z2::.pointer (some ⟨ib,0,none⟩)::z4::z5::z6::z7::z8::z9::.pointer (some ⟨xb,0,none⟩)::z11::z12::z13::z14::z15::z16::z17::z18::z19::z20::z21::z22::z23::z24::z25::z26::z27::z28::z29::z30::z31::z32::z33::z34::z35::z36::z37::z38::z39::z40::z41::z42::z43::z44::z45::z46::z47::z48::z49::z50::z51::z52::z53::z54::z55::z56::z57::z58::z59::z60::z61::z62::z63::z64::z65::z66::z67::z68::z69::z70::z71::z72::z73::z74::z75::z76::z77::z78::z79::z80::z81::z82::z83::z84::z85::z86::z87::z88::z89::z90::z91::z92::z93::z94::z95::z96::z97::z98::z99::z100::z101::z102::z103::z104::z105::z106::z107::z108::z109::z110::z111::z112::z113::z114::z115::z116::z117::z118::z119::z120::z121::z122::z123::z124::z125::z126::z127::z128::z129::z130::z131::z132::z133::z134::z135::z136::z137::z138::z139::z140::z141::z142::y143::y144::y145::y146::y147::y148::y149::y150::y151::y152::y153::y154::y155::y156::y157::z158::z159::z160::z161::z162::z163::z164::z165::z166::z167::z168::z169::z170::z171::z172::z173::z174::z175::z176::z177::z178::z179::z180::z181::z182::z183::z184::z185::z186::z187::z188::z189::z190::z191::z192::z193::z194::z195::[]).toArray,defers:=[] } W') :
  Code.wp Try.prog (Code.region 18 rgA2 true) Q { tmps:=(z0::z1::z2::.pointer (some ⟨ib,0,none⟩)::z4::z5::z6::z7::z8::z9::.pointer (some ⟨xb,0,none⟩)::z11::z12::z13::z14::z15::z16::z17::z18::z19::z20::z21::z22::z23::z24::z25::z26::z27::z28::z29::z30::z31::z32::z33::z34::z35::z36::z37::z38::z39::z40::z41::z42::z43::z44::z45::z46::z47::z48::z49::z50::z51::z52::z53::z54::z55::z56::z57::z58::z59::z60::z61::z62::z63::z64::z65::z66::z67::z68::z69::z70::z71::z72::z73::z74::z75::z76::z77::z78::z79::z80::z81::z82::z83::z84::z85::z86::z87::z88::z89::z90::z91::z92::z93::z94::z95::z96::z97::z98::z99::z100::z101::z102::z103::z104::z105::z106::z107::z108::z109::z110::z111::z112::z113::z114::z115::z116::z117::z118::z119::z120::z121::z122::z123::z124::z125::z126::z127::z128::z129::z130::z131::z132::z133::z134::z135::z136::z137::z138::z139::z140::z141::z142::z143::z144::z145::z146::z147::z148::z149::z150::z151::z152::z153::z154::z155::z156::z157::z158::z159::z160::z161::z162::z163::z164::z165::z166::z167::z168::z169::z170::z171::z172::z173::z174::z175::z176::z177::z178::z179::z180::z181::z182::z183::z184::z185::z186::z187::z188::z189::z190::z191::z192::z193::z194::z195::[]).toArray,defers:=[] } w:=by
 unfold rgA2
 refine wp_region_any (by kernel_rfl) ?_
 have hMd:=hM.drew
 clear hM
 change wpAny _ _ _ _ _ _ _ (World.drew _)
 generalize World.drew w=w2 at hMd ⊢
 refine wpAny_take (i:=0) (v:=.pointer (some ⟨ib,3,none⟩)) rfl (by kernel_rfl) (by kernel_rfl) (by kernel_rfl) (fun c a w=>hQp c a _ _ w) (Or.inl ⟨by rfl,?_⟩) ?_
 ·intro w
  go_simp
 refine wpAny_take (i:=2) (v:=.pointer (some ⟨ib,4,none⟩)) rfl (by kernel_rfl) (by kernel_rfl) (by kernel_rfl) (fun c a w=>hQp c a _ _ w) (Or.inl ⟨by rfl,?_⟩) ?_
 ·intro w
  go_simp
 refine wpAny_take (i:=4) (v:=.pointer (some ⟨ib,1,none⟩)) rfl (by kernel_rfl) (by kernel_rfl) (by kernel_rfl) (fun c a w=>hQp c a _ _ w) (Or.inl ⟨by rfl,?_⟩) ?_
 ·intro w
  go_simp
 refine wpAny_take (i:=6) (v:=.pointer (some ⟨ib,2,none⟩)) rfl (by kernel_rfl) (by kernel_rfl) (by kernel_rfl) (fun c a w=>hQp c a _ _ w) (Or.inl ⟨by rfl,?_⟩) ?_
 ·intro w
  go_simp
 refine wpAny_take (i:=8) (v:=.pointer (some ⟨ib,5,none⟩)) rfl (by kernel_rfl) (by kernel_rfl) (by kernel_rfl) (fun c a w=>hQp c a _ _ w) (Or.inl ⟨by rfl,?_⟩) ?_
 ·intro w
  go_simp
 show wpAny _ _ opsins18 _ (0 + 15) _ _ _
 refine wpAny_inv (I:=Iins18 wA xb i (fun b1 b3 b5 b7 b9 b10 b11 b12 b13 b14 b15 b16 b17 b18 b19=>(z0::z1::z2::.pointer (some ⟨ib,0,none⟩)::z4::z5::z6::z7::z8::z9::.pointer (some ⟨xb,0,none⟩)::z11::z12::z13::z14::z15::z16::z17::z18::z19::z20::z21::z22::z23::z24::z25::z26::z27::z28::z29::z30::z31::z32::z33::z34::z35::z36::z37::z38::z39::z40::z41::z42::z43::z44::z45::z46::z47::z48::z49::z50::z51::z52::z53::z54::z55::z56::z57::z58::z59::z60::z61::z62::z63::z64::z65::z66::z67::z68::z69::z70::z71::z72::z73::z74::z75::z76::z77::z78::z79::z80::z81::z82::z83::z84::z85::z86::z87::z88::z89::z90::z91::z92::z93::z94::z95::z96::z97::z98::z99::z100::z101::z102::z103::z104::z105::z106::z107::z108::z109::z110::z111::z112::z113::z114::z115::z116::z117::z118::z119::z120::z121::z122::z123::z124::z125::z126::z127::z128::z129::z130::z131::z132::z133::z134::z135::z136::z137::z138::z139::z140::z141::z142::.pointer (some ⟨ib,3,none⟩)::(bif b1 then .int .i64 i.r else z144)::.pointer (some ⟨ib,4,none⟩)::(bif b3 then .int .i64 i.l else z146)::.pointer (some ⟨ib,1,none⟩)::(bif b5 then .int .i64 i.m else z148)::.pointer (some ⟨ib,2,none⟩)::(bif b7 then .int .i64 i.m2 else z150)::.pointer (some ⟨ib,5,none⟩)::(bif b9 then .slice i.a i.E.length i.c else z152)::(bif b10 then .pointer (some ⟨xb,3,none⟩) else z153)::(bif b12 then .pointer (some ⟨xb,4,none⟩) else z154)::(bif b14 then .pointer (some ⟨xb,1,none⟩) else z155)::(bif b16 then .pointer (some ⟨xb,2,none⟩) else z156)::(bif b18 then .pointer (some ⟨xb,5,none⟩) else z157)::z158::z159::z160::z161::z162::z163::z164::z165::z166::z167::z168::z169::z170::z171::z172::z173::z174::z175::z176::z177::z178::z179::z180::z181::z182::z183::z184::z185::z186::z187::z188::z189::z190::z191::z192::z193::z194::z195::[]).toArray)) (fun k L a w=>stepins18 wA ib xb i hi hx _ _ _ _ _ _ _ _ _ _ _ _ _ _ _ _ _ _ _ _ _ _ _ _ _ _ _ _ _ _ _ _ _ _ _ _ _ _ _ _ _ _ _ _ _ _ _ _ _ _ _ _ _ _ _ _ _ _ _ _ _ _ _ _ _ _ _ _ _ _ _ _ _ _ _ _ _ _ _ _ _ _ _ _ _ _ _ _ _ _ _ _ _ _ _ _ _ _ _ _ _ _ _ _ _ _ _ _ _ _ _ _ _ _ _ _ _ _ _ _ _ _ _ _ _ _ _ _ _ _ _ _ _ _ _ _ _ _ _ _ _ _ _ _ _ _ _ _ _ _ _ _ _ _ _ _ _ _ _ _ _ _ _ _ _ _ _ _ _ _ _ _ _ _ _ _ _ _ _ _ _ _ _ _ _ _ _ _ _ _ (fun _ _ _ _ _ _ _ _ _ _ _ _ _ _ _=>rfl) Q k L a w) ?_ 15 _ _ _ ⟨false,false,false,false,false,false,false,false,false,false,false,false,false,false,false,by kernel_rfl,by kernel_rfl,by kernel_rfl,hMd,by simp [conins18]⟩
 rintro L a w1 ⟨b1,b3,b5,b7,b9,b10,b11,b12,b13,b14,b15,b16,b17,b18,b19,hk,rfl,rfl,hM,-⟩
 obtain ⟨rfl,rfl,rfl,rfl,rfl,rfl,rfl,rfl,rfl,rfl,rfl,rfl,rfl,rfl,rfl⟩:b1=true∧b3=true∧b5=true∧b7=true∧b9=true∧b10=true∧b11=true∧b12=true∧b13=true∧b14=true∧b15=true∧b16=true∧b17=true∧b18=true∧b19=true:=⟨nb0 _ (by omega),nb0 _ (by omega),nb0 _ (by omega),nb0 _ (by omega),nb0 _ (by omega),nb0 _ (by omega),nb0 _ (by omega),nb0 _ (by omega),nb0 _ (by omega),nb0 _ (by omega),nb0 _ (by omega),nb0 _ (by omega),nb0 _ (by omega),nb0 _ (by omega),nb0 _ (by omega)⟩
 clear hk
 refine wpAny_done (by kernel_rfl) ?_ _
 exact hQ _ _ _ _ _ _ _ _ _ _ _ _ _ _ _ w1 hM
def opsins21:Array Oper:=rgA3
def arrins21 (b1 b3 b4 b5 b6 b7:Bool):Array Bool:=#[true,b1,true,b3,b4,b5,b6,b7]
def conins21 (b1 b3 b4 b5 b6 b7:Bool):Prop:=(b4=true→(b1)=true)∧(b5=true→(b4)=true)∧(b6=true→(b3 && b5)=true)∧(b7=true→(b6)=true)
def chkins21 (b1 b3 b4 b5 b6 b7:Bool):Bool:=
 let r:=Region.ready .any opsins21 (arrins21 b1 b3 b4 b5 b6 b7)
 (b1 && b3 && b4 && b5 && b6 && b7) || (!r.isEmpty && r.all fun i=>match i with | 1=>!b1 | 3=>!b3 | 4=>b1 && !b4 | 5=>b1 && b4 && !b5 | 6=>b1 && b3 && b4 && b5 && !b6 | 7=>b1 && b3 && b4 && b5 && b6 && !b7 | _=>false)
theorem rdyins21':(allD (true) fun b1=>allD (true) fun b3=>allD (b1) fun b4=>allD (b4) fun b5=>allD (b3 && b5) fun b6=>allD (b6) fun b7=>chkins21 b1 b3 b4 b5 b6 b7)=true:=by kernel_rfl
theorem rdyins21 (b1 b3 b4 b5 b6 b7:Bool) (h:conins21 b1 b3 b4 b5 b6 b7):chkins21 b1 b3 b4 b5 b6 b7=true:=by
 obtain ⟨c4,c5,c6,c7⟩:=h
 exact allD_at (allD_at (allD_at (allD_at (allD_at (allD_at (rdyins21') b1 (fun _=>rfl)) b3 (fun _=>rfl)) b4 c4) b5 c5) b6 c6) b7 c7
namespace SndA
def Iins21 (wA:World) (xb:Nat) (i:Ins) (fr:Bool→Bool→Bool→Bool→Bool→Bool→Array Value) (k:Nat) (L:Array Bool) (a:Act) (w:World):Prop:=
 ∃ (b1 b3 b4 b5 b6 b7:Bool),k=nb b1 + nb b3 + nb b4 + nb b5 + nb b6 + nb b7∧L=arrins21 b1 b3 b4 b5 b6 b7∧a={ tmps:=fr b1 b3 b4 b5 b6 b7,defers:=[] }∧XM wA xb i w∧conins21 b1 b3 b4 b5 b6 b7
end SndA
set_option maxRecDepth 100000 in
set_option maxHeartbeats 8000000 in
theorem stepins21 (wA:World) (ib xb:Nat) (i:Ins) (hi:LCells wA ib 0 i) (hx:wA.heap.size≤xb) (z0 z1 z2 z4 z5 z6 z7 z8 z9 z11 z12 z13 z14 z15 z16 z17 z18 z19 z20 z21 z22 z23 z24 z25 z26 z27 z28 z29 z30 z31 z32 z33 z34 z35 z36 z37 z38 z39 z40 z41 z42 z43 z44 z45 z46 z47 z48 z49 z50 z51 z52 z53 z54 z55 z56 z57 z58 z59 z60 z61 z62 z63 z64 z65 z66 z67 z68 z69 z70 z71 z72 z73 z74 z75 z76 z77 z78 z79 z80 z81 z82 z83 z84 z85 z86 z87 z88 z89 z90 z91 z92 z93 z94 z95 z96 z97 z98 z99 z100 z101 z102 z103 z104 z105 z106 z107 z108 z109 z110 z111 z112 z113 z114 z115 z116 z117 z118 z119 z120 z121 z122 z123 z124 z125 z126 z127 z128 z129 z130 z131 z132 z133 z134 z135 z136 z137 z138 z139 z140 z141 z142 z143 z144 z145 z146 z147 z148 z149 z150 z151 z152 z153 z154 z155 z156 z157 z158 z159 z160 z161 z162 z163 z165 z167 z168 z169 z170 z171 z172 z173 z174 z175 z176 z177 z178 z179 z180 z181 z182 z183 z184 z185 z186 z187 z188 z189 z190 z191 z192 z193 z194 z195:Value) (fr:Bool→Bool→Bool→Bool→Bool→Bool→Array Value) (hfr:∀ b1 b3 b4 b5 b6 b7,fr b1 b3 b4 b5 b6 b7=(z0::z1::z2::.pointer (some ⟨ib,0,none⟩)::z4::z5::z6::z7::z8::z9::.pointer (some ⟨xb,0,none⟩)::z11::z12::z13::z14::z15::z16::z17::z18::z19::z20::z21::z22::z23::z24::z25::z26::z27::z28::z29::z30::z31::z32::z33::z34::z35::z36::z37::z38::z39::z40::z41::z42::z43::z44::z45::z46::z47::z48::z49::z50::z51::z52::z53::z54::z55::z56::z57::z58::z59::z60::z61::z62::z63::z64::z65::z66::z67::z68::z69::z70::z71::z72::z73::z74::z75::z76::z77::z78::z79::z80::z81::z82::z83::z84::z85::z86::z87::z88::z89::z90::z91::z92::z93::z94::z95::z96::z97::z98::z99::z100::z101::z102::z103::z104::z105::z106::z107::z108::z109::z110::z111::z112::z113::z114::z115::z116::z117::z118::z119::z120::z121::z122::z123::z124::z125::z126::z127::z128::z129::z130::z131::z132::z133::z134::z135::z136::z137::z138::z139::z140::z141::z142::z143::z144::z145::z146::z147::z148::z149::z150::z151::z152::z153::z154::z155::z156::z157::z158::z159::z160::z161::z162::z163::.pointer (some ⟨ib,3,none⟩)::(bif b1 then .int .i64 i.r else z165)::.pointer (some ⟨ib,5,none⟩)::(bif b3 then .slice i.a i.E.length i.c else z167)::(bif b4 then .pointer (some ⟨xb,3,none⟩) else z168)::(bif b6 then .pointer (some ⟨xb,5,none⟩) else z169)::z170::z171::z172::z173::z174::z175::z176::z177::z178::z179::z180::z181::z182::z183::z184::z185::z186::z187::z188::z189::z190::z191::z192::z193::z194::z195::[]).toArray) (Q:Exit→Act→World→Prop) (k:Nat) (L:Array Bool) (a:Act) (w:World) (h:Iins21 wA xb i fr (k + 1) L a w) :
  Region.ready .any opsins21 L ≠ []∧∀ i' ∈ Region.ready .any opsins21 L,wpOp Try.prog opsins21 Q i' (fun a' w'=>Iins21 wA xb i fr k (L.setIfInBounds i' true) a' w') a w:=by
 obtain ⟨b1,b3,b4,b5,b6,b7,hk,rfl,rfl,hM,hcon⟩:=h
 have hnt:nb true=0:=rfl
 have hnf:nb false=1:=rfl
 have hc:=rdyins21 b1 b3 b4 b5 b6 b7 hcon
 unfold chkins21 at hc
 have hn:(b1 && b3 && b4 && b5 && b6 && b7)=false:=by
  cases hq:(b1 && b3 && b4 && b5 && b6 && b7) with
  | false=>rfl
  | true=>
   simp only [Bool.and_eq_true] at hq
   obtain ⟨⟨⟨⟨⟨rfl,rfl⟩,rfl⟩,rfl⟩,rfl⟩,rfl⟩:=hq
   simp [nb] at hk
 rw [hn] at hc
 obtain ⟨c4,c5,c6,c7⟩:=hcon
 simp only [Bool.false_or,Bool.and_eq_true,List.all_eq_true,Bool.not_eq_true'] at hc
 refine ⟨fun h0=>by rw [h0] at hc; simp at hc,fun i' hi'=>?_⟩
 have hi2:=hc.2 i' hi'
 clear hc hi' hn
 split at hi2
 ·simp only [Bool.not_eq_true'] at hi2
  subst hi2
  have c:=cell_next hi.c3 hM.1
  refine wpOp_one (o:=ogA33) (by rfl) rfl ?_
  unfold ogA33
  generalize hK:(fun a' w'=>Iins21 wA xb i fr k ((arrins21 false b3 b4 b5 b6 b7).setIfInBounds 1 true) a' w')=K
  rw [hfr]
  unfold Oper.wp
  go_simp
  subst hK
  exact ⟨true,b3,b4,b5,b6,b7,by omega,rfl,by rw [hfr]; rfl,hM,⟨by first | exact c4 | exact fun _=>rfl | (intro q; have:=c4 q; simp at this),by first | exact c5 | exact fun _=>rfl | (intro q; have:=c5 q; simp at this),by first | exact c6 | exact fun _=>rfl | (intro q; have:=c6 q; simp at this),by first | exact c7 | exact fun _=>rfl | (intro q; have:=c7 q; simp at this)⟩⟩
 ·simp only [Bool.not_eq_true'] at hi2
  subst hi2
  have c:=cell_next hi.c5 hM.1
  refine wpOp_one (o:=ogA34) (by rfl) rfl ?_
  unfold ogA34
  generalize hK:(fun a' w'=>Iins21 wA xb i fr k ((arrins21 b1 false b4 b5 b6 b7).setIfInBounds 3 true) a' w')=K
  rw [hfr]
  unfold Oper.wp
  go_simp
  subst hK
  exact ⟨b1,true,b4,b5,b6,b7,by omega,rfl,by rw [hfr]; rfl,hM,⟨by first | exact c4 | exact fun _=>rfl | (intro q; have:=c4 q; simp at this),by first | exact c5 | exact fun _=>rfl | (intro q; have:=c5 q; simp at this),by first | exact c6 | exact fun _=>rfl | (intro q; have:=c6 q; simp at this),by first | exact c7 | exact fun _=>rfl | (intro q; have:=c7 q; simp at this)⟩⟩
 ·simp only [Bool.and_eq_true,Bool.not_eq_true'] at hi2
  obtain ⟨rfl,rfl⟩:=hi2
  refine wpOp_one (o:=ogA35) (by rfl) rfl ?_
  unfold ogA35
  generalize hK:(fun a' w'=>Iins21 wA xb i fr k ((arrins21 true b3 false b5 b6 b7).setIfInBounds 4 true) a' w')=K
  rw [hfr]
  unfold Oper.wp
  go_simp
  subst hK
  exact ⟨true,b3,true,b5,b6,b7,by omega,rfl,by rw [hfr]; rfl,hM,⟨by first | exact c4 | exact fun _=>rfl | (intro q; have:=c4 q; simp at this),by first | exact c5 | exact fun _=>rfl | (intro q; have:=c5 q; simp at this),by first | exact c6 | exact fun _=>rfl | (intro q; have:=c6 q; simp at this),by first | exact c7 | exact fun _=>rfl | (intro q; have:=c7 q; simp at this)⟩⟩
 ·simp only [Bool.and_eq_true,Bool.not_eq_true'] at hi2
  obtain ⟨⟨rfl,rfl⟩,rfl⟩:=hi2
  obtain ⟨⟨vo,c⟩,d⟩:=hM.cell 3 (by omega)
  refine wpOp_one (o:=ogA36) (by rfl) rfl ?_
  unfold ogA36
  generalize hK:(fun a' w'=>Iins21 wA xb i fr k ((arrins21 true b3 true false b6 b7).setIfInBounds 5 true) a' w')=K
  rw [hfr]
  unfold Oper.wp
  go_simp
  subst hK
  exact ⟨true,b3,true,true,b6,b7,by omega,rfl,by rw [hfr]; rfl,hM.set3 hx _,⟨by first | exact c4 | exact fun _=>rfl | (intro q; have:=c4 q; simp at this),by first | exact c5 | exact fun _=>rfl | (intro q; have:=c5 q; simp at this),by first | exact c6 | exact fun _=>rfl | (intro q; have:=c6 q; simp at this),by first | exact c7 | exact fun _=>rfl | (intro q; have:=c7 q; simp at this)⟩⟩
 ·simp only [Bool.and_eq_true,Bool.not_eq_true'] at hi2
  obtain ⟨⟨⟨⟨rfl,rfl⟩,rfl⟩,rfl⟩,rfl⟩:=hi2
  refine wpOp_one (o:=ogA37) (by rfl) rfl ?_
  unfold ogA37
  generalize hK:(fun a' w'=>Iins21 wA xb i fr k ((arrins21 true true true true false b7).setIfInBounds 6 true) a' w')=K
  rw [hfr]
  unfold Oper.wp
  go_simp
  subst hK
  exact ⟨true,true,true,true,true,b7,by omega,rfl,by rw [hfr]; rfl,hM,⟨by first | exact c4 | exact fun _=>rfl | (intro q; have:=c4 q; simp at this),by first | exact c5 | exact fun _=>rfl | (intro q; have:=c5 q; simp at this),by first | exact c6 | exact fun _=>rfl | (intro q; have:=c6 q; simp at this),by first | exact c7 | exact fun _=>rfl | (intro q; have:=c7 q; simp at this)⟩⟩
 ·simp only [Bool.and_eq_true,Bool.not_eq_true'] at hi2
  obtain ⟨⟨⟨⟨⟨rfl,rfl⟩,rfl⟩,rfl⟩,rfl⟩,rfl⟩:=hi2
  obtain ⟨⟨vo,c⟩,d⟩:=hM.cell 5 (by omega)
  refine wpOp_one (o:=ogA38) (by rfl) rfl ?_
  unfold ogA38
  generalize hK:(fun a' w'=>Iins21 wA xb i fr k ((arrins21 true true true true true false).setIfInBounds 7 true) a' w')=K
  rw [hfr]
  unfold Oper.wp
  go_simp
  subst hK
  exact ⟨true,true,true,true,true,true,by omega,rfl,by rw [hfr]; rfl,hM.set5 hx,⟨by first | exact c4 | exact fun _=>rfl | (intro q; have:=c4 q; simp at this),by first | exact c5 | exact fun _=>rfl | (intro q; have:=c5 q; simp at this),by first | exact c6 | exact fun _=>rfl | (intro q; have:=c6 q; simp at this),by first | exact c7 | exact fun _=>rfl | (intro q; have:=c7 q; simp at this)⟩⟩
 ·cases hi2
set_option maxRecDepth 100000 in
set_option maxHeartbeats 8000000 in
theorem ins21_l (wA w:World) (ib xb:Nat) (i:Ins) (hi:LCells wA ib 0 i) (hx:wA.heap.size≤xb) (hM:XM wA xb i w) (z0 z1 z2 z4 z5 z6 z7 z8 z9 z11 z12 z13 z14 z15 z16 z17 z18 z19 z20 z21 z22 z23 z24 z25 z26 z27 z28 z29 z30 z31 z32 z33 z34 z35 z36 z37 z38 z39 z40 z41 z42 z43 z44 z45 z46 z47 z48 z49 z50 z51 z52 z53 z54 z55 z56 z57 z58 z59 z60 z61 z62 z63 z64 z65 z66 z67 z68 z69 z70 z71 z72 z73 z74 z75 z76 z77 z78 z79 z80 z81 z82 z83 z84 z85 z86 z87 z88 z89 z90 z91 z92 z93 z94 z95 z96 z97 z98 z99 z100 z101 z102 z103 z104 z105 z106 z107 z108 z109 z110 z111 z112 z113 z114 z115 z116 z117 z118 z119 z120 z121 z122 z123 z124 z125 z126 z127 z128 z129 z130 z131 z132 z133 z134 z135 z136 z137 z138 z139 z140 z141 z142 z143 z144 z145 z146 z147 z148 z149 z150 z151 z152 z153 z154 z155 z156 z157 z158 z159 z160 z161 z162 z163 z164 z165 z166 z167 z168 z169 z170 z171 z172 z173 z174 z175 z176 z177 z178 z179 z180 z181 z182 z183 z184 z185 z186 z187 z188 z189 z190 z191 z192 z193 z194 z195:Value) (Q:Exit→Act→World→Prop)
  (hQp:∀ c (a:Act) (d:Tmp) v w,Q (.panic c) (a.put (some d) v) w→Q (.panic c) a w)
  (hQ:∀ (y164 y165 y166 y167 y168 y169:Value) (W':World),XM wA xb i W'→Q .normal { tmps:=(z0::z1::z2::.pointer (some ⟨ib,0,none⟩)::z4::z5::z6::z7::z8::z9::.pointer (some ⟨xb,0,none⟩)::z11::z12::z13::z14::z15::z16::z17::z18::z19::z20::z21::z22::z23::z24::z25::z26::z27::z28::z29::z30::z31::z32::z33::z34::z35::z36::z37::z38::z39::z40::z41::z42::z43::z44::z45::z46::z47::z48::z49::z50::z51::z52::z53::z54::z55::z56::z57::z58::z59::z60::z61::z62::z63::z64::z65::z66::z67::z68::z69::z70::z71::z72::z73::z74::z75::z76::z77::z78::z79::z80::z81::z82::z83::z84::z85::z86::z87::z88::z89::z90::z91::z92::z93::z94::z95::z96::z97::z98::z99::z100::z101::z102::z103::z104::z105::z106::z107::z108::z109::z110::z111::z112::z113::z114::z115::z116::z117::z118::z119::z120::z121::z122::z123::z124::z125::z126::z127::z128::z129::z130::z131::z132::z133::z134::z135::z136::z137::z138::z139::z140::z141::z142::z143::z144::z145::z146::z147::z148::z149::z150::z151::z152::z153::z154::z155::z156::z157::z158::z159::z160::z161::z162::z163::y164::y165::y166::y167::y168::y169::z170::z171::z172::z173::z174::z175::z176::z177::z178::z179::z180::z181::z182::z183::z184::z185::z186::z187::z188::z189::z190::z191::z192::z193::z194::z195::[]).toArray,defers:=[] } W') :
  Code.wp Try.prog (Code.region 21 rgA3 true) Q { tmps:=(z0::z1::z2::.pointer (some ⟨ib,0,none⟩)::z4::z5::z6::z7::z8::z9::.pointer (some ⟨xb,0,none⟩)::z11::z12::z13::z14::z15::z16::z17::z18::z19::z20::z21::z22::z23::z24::z25::z26::z27::z28::z29::z30::z31::z32::z33::z34::z35::z36::z37::z38::z39::z40::z41::z42::z43::z44::z45::z46::z47::z48::z49::z50::z51::z52::z53::z54::z55::z56::z57::z58::z59::z60::z61::z62::z63::z64::z65::z66::z67::z68::z69::z70::z71::z72::z73::z74::z75::z76::z77::z78::z79::z80::z81::z82::z83::z84::z85::z86::z87::z88::z89::z90::z91::z92::z93::z94::z95::z96::z97::z98::z99::z100::z101::z102::z103::z104::z105::z106::z107::z108::z109::z110::z111::z112::z113::z114::z115::z116::z117::z118::z119::z120::z121::z122::z123::z124::z125::z126::z127::z128::z129::z130::z131::z132::z133::z134::z135::z136::z137::z138::z139::z140::z141::z142::z143::z144::z145::z146::z147::z148::z149::z150::z151::z152::z153::z154::z155::z156::z157::z158::z159::z160::z161::z162::z163::z164::z165::z166::z167::z168::z169::z170::z171::z172::z173::z174::z175::z176::z177::z178::z179::z180::z181::z182::z183::z184::z185::z186::z187::z188::z189::z190::z191::z192::z193::z194::z195::[]).toArray,defers:=[] } w:=by
 unfold rgA3
 refine wp_region_any (by kernel_rfl) ?_
 have hMd:=hM.drew
 clear hM
 change wpAny _ _ _ _ _ _ _ (World.drew _)
 generalize World.drew w=w2 at hMd ⊢
 refine wpAny_take (i:=0) (v:=.pointer (some ⟨ib,3,none⟩)) rfl (by kernel_rfl) (by kernel_rfl) (by kernel_rfl) (fun c a w=>hQp c a _ _ w) (Or.inl ⟨by rfl,?_⟩) ?_
 ·intro w
  go_simp
 refine wpAny_take (i:=2) (v:=.pointer (some ⟨ib,5,none⟩)) rfl (by kernel_rfl) (by kernel_rfl) (by kernel_rfl) (fun c a w=>hQp c a _ _ w) (Or.inl ⟨by rfl,?_⟩) ?_
 ·intro w
  go_simp
 show wpAny _ _ opsins21 _ (0 + 6) _ _ _
 refine wpAny_inv (I:=Iins21 wA xb i (fun b1 b3 b4 b5 b6 b7=>(z0::z1::z2::.pointer (some ⟨ib,0,none⟩)::z4::z5::z6::z7::z8::z9::.pointer (some ⟨xb,0,none⟩)::z11::z12::z13::z14::z15::z16::z17::z18::z19::z20::z21::z22::z23::z24::z25::z26::z27::z28::z29::z30::z31::z32::z33::z34::z35::z36::z37::z38::z39::z40::z41::z42::z43::z44::z45::z46::z47::z48::z49::z50::z51::z52::z53::z54::z55::z56::z57::z58::z59::z60::z61::z62::z63::z64::z65::z66::z67::z68::z69::z70::z71::z72::z73::z74::z75::z76::z77::z78::z79::z80::z81::z82::z83::z84::z85::z86::z87::z88::z89::z90::z91::z92::z93::z94::z95::z96::z97::z98::z99::z100::z101::z102::z103::z104::z105::z106::z107::z108::z109::z110::z111::z112::z113::z114::z115::z116::z117::z118::z119::z120::z121::z122::z123::z124::z125::z126::z127::z128::z129::z130::z131::z132::z133::z134::z135::z136::z137::z138::z139::z140::z141::z142::z143::z144::z145::z146::z147::z148::z149::z150::z151::z152::z153::z154::z155::z156::z157::z158::z159::z160::z161::z162::z163::.pointer (some ⟨ib,3,none⟩)::(bif b1 then .int .i64 i.r else z165)::.pointer (some ⟨ib,5,none⟩)::(bif b3 then .slice i.a i.E.length i.c else z167)::(bif b4 then .pointer (some ⟨xb,3,none⟩) else z168)::(bif b6 then .pointer (some ⟨xb,5,none⟩) else z169)::z170::z171::z172::z173::z174::z175::z176::z177::z178::z179::z180::z181::z182::z183::z184::z185::z186::z187::z188::z189::z190::z191::z192::z193::z194::z195::[]).toArray)) (fun k L a w=>stepins21 wA ib xb i hi hx _ _ _ _ _ _ _ _ _ _ _ _ _ _ _ _ _ _ _ _ _ _ _ _ _ _ _ _ _ _ _ _ _ _ _ _ _ _ _ _ _ _ _ _ _ _ _ _ _ _ _ _ _ _ _ _ _ _ _ _ _ _ _ _ _ _ _ _ _ _ _ _ _ _ _ _ _ _ _ _ _ _ _ _ _ _ _ _ _ _ _ _ _ _ _ _ _ _ _ _ _ _ _ _ _ _ _ _ _ _ _ _ _ _ _ _ _ _ _ _ _ _ _ _ _ _ _ _ _ _ _ _ _ _ _ _ _ _ _ _ _ _ _ _ _ _ _ _ _ _ _ _ _ _ _ _ _ _ _ _ _ _ _ _ _ _ _ _ _ _ _ _ _ _ _ _ _ _ _ _ _ _ _ _ _ _ _ _ _ _ _ _ _ (fun _ _ _ _ _ _=>rfl) Q k L a w) ?_ 6 _ _ _ ⟨false,false,false,false,false,false,by kernel_rfl,by kernel_rfl,by kernel_rfl,hMd,by simp [conins21]⟩
 rintro L a w1 ⟨b1,b3,b4,b5,b6,b7,hk,rfl,rfl,hM,-⟩
 obtain ⟨rfl,rfl,rfl,rfl,rfl,rfl⟩:b1=true∧b3=true∧b4=true∧b5=true∧b6=true∧b7=true:=⟨nb0 _ (by omega),nb0 _ (by omega),nb0 _ (by omega),nb0 _ (by omega),nb0 _ (by omega),nb0 _ (by omega)⟩
 clear hk
 refine wpAny_done (by kernel_rfl) ?_ _
 exact hQ _ _ _ _ _ _ w1 hM
def opsins24:Array Oper:=rgA4
def arrins24 (b1 b3 b4 b5 b6 b7:Bool):Array Bool:=#[true,b1,true,b3,b4,b5,b6,b7]
def conins24 (b1 b3 b4 b5 b6 b7:Bool):Prop:=(b4=true→(b1)=true)∧(b5=true→(b4)=true)∧(b6=true→(b3 && b5)=true)∧(b7=true→(b6)=true)
def chkins24 (b1 b3 b4 b5 b6 b7:Bool):Bool:=
 let r:=Region.ready .any opsins24 (arrins24 b1 b3 b4 b5 b6 b7)
 (b1 && b3 && b4 && b5 && b6 && b7) || (!r.isEmpty && r.all fun i=>match i with | 1=>!b1 | 3=>!b3 | 4=>b1 && !b4 | 5=>b1 && b4 && !b5 | 6=>b1 && b3 && b4 && b5 && !b6 | 7=>b1 && b3 && b4 && b5 && b6 && !b7 | _=>false)
theorem rdyins24':(allD (true) fun b1=>allD (true) fun b3=>allD (b1) fun b4=>allD (b4) fun b5=>allD (b3 && b5) fun b6=>allD (b6) fun b7=>chkins24 b1 b3 b4 b5 b6 b7)=true:=by kernel_rfl
theorem rdyins24 (b1 b3 b4 b5 b6 b7:Bool) (h:conins24 b1 b3 b4 b5 b6 b7):chkins24 b1 b3 b4 b5 b6 b7=true:=by
 obtain ⟨c4,c5,c6,c7⟩:=h
 exact allD_at (allD_at (allD_at (allD_at (allD_at (allD_at (rdyins24') b1 (fun _=>rfl)) b3 (fun _=>rfl)) b4 c4) b5 c5) b6 c6) b7 c7
namespace SndA
def Iins24 (wA:World) (xb:Nat) (i:Ins) (fr:Bool→Bool→Bool→Bool→Bool→Bool→Array Value) (k:Nat) (L:Array Bool) (a:Act) (w:World):Prop:=
 ∃ (b1 b3 b4 b5 b6 b7:Bool),k=nb b1 + nb b3 + nb b4 + nb b5 + nb b6 + nb b7∧L=arrins24 b1 b3 b4 b5 b6 b7∧a={ tmps:=fr b1 b3 b4 b5 b6 b7,defers:=[] }∧XM wA xb i w∧conins24 b1 b3 b4 b5 b6 b7
end SndA
set_option maxRecDepth 100000 in
set_option maxHeartbeats 8000000 in
theorem stepins24 (wA:World) (ib xb:Nat) (i:Ins) (hi:LCells wA ib 0 i) (hx:wA.heap.size≤xb) (z0 z1 z2 z4 z5 z6 z7 z8 z9 z11 z12 z13 z14 z15 z16 z17 z18 z19 z20 z21 z22 z23 z24 z25 z26 z27 z28 z29 z30 z31 z32 z33 z34 z35 z36 z37 z38 z39 z40 z41 z42 z43 z44 z45 z46 z47 z48 z49 z50 z51 z52 z53 z54 z55 z56 z57 z58 z59 z60 z61 z62 z63 z64 z65 z66 z67 z68 z69 z70 z71 z72 z73 z74 z75 z76 z77 z78 z79 z80 z81 z82 z83 z84 z85 z86 z87 z88 z89 z90 z91 z92 z93 z94 z95 z96 z97 z98 z99 z100 z101 z102 z103 z104 z105 z106 z107 z108 z109 z110 z111 z112 z113 z114 z115 z116 z117 z118 z119 z120 z121 z122 z123 z124 z125 z126 z127 z128 z129 z130 z131 z132 z133 z134 z135 z136 z137 z138 z139 z140 z141 z142 z143 z144 z145 z146 z147 z148 z149 z150 z151 z152 z153 z154 z155 z156 z157 z158 z159 z160 z161 z162 z163 z164 z165 z166 z167 z168 z169 z170 z171 z172 z173 z174 z175 z176 z177 z178 z179 z180 z181 z182 z183 z185 z187 z188 z189 z190 z191 z192 z193 z194 z195:Value) (fr:Bool→Bool→Bool→Bool→Bool→Bool→Array Value) (hfr:∀ b1 b3 b4 b5 b6 b7,fr b1 b3 b4 b5 b6 b7=(z0::z1::z2::.pointer (some ⟨ib,0,none⟩)::z4::z5::z6::z7::z8::z9::.pointer (some ⟨xb,0,none⟩)::z11::z12::z13::z14::z15::z16::z17::z18::z19::z20::z21::z22::z23::z24::z25::z26::z27::z28::z29::z30::z31::z32::z33::z34::z35::z36::z37::z38::z39::z40::z41::z42::z43::z44::z45::z46::z47::z48::z49::z50::z51::z52::z53::z54::z55::z56::z57::z58::z59::z60::z61::z62::z63::z64::z65::z66::z67::z68::z69::z70::z71::z72::z73::z74::z75::z76::z77::z78::z79::z80::z81::z82::z83::z84::z85::z86::z87::z88::z89::z90::z91::z92::z93::z94::z95::z96::z97::z98::z99::z100::z101::z102::z103::z104::z105::z106::z107::z108::z109::z110::z111::z112::z113::z114::z115::z116::z117::z118::z119::z120::z121::z122::z123::z124::z125::z126::z127::z128::z129::z130::z131::z132::z133::z134::z135::z136::z137::z138::z139::z140::z141::z142::z143::z144::z145::z146::z147::z148::z149::z150::z151::z152::z153::z154::z155::z156::z157::z158::z159::z160::z161::z162::z163::z164::z165::z166::z167::z168::z169::z170::z171::z172::z173::z174::z175::z176::z177::z178::z179::z180::z181::z182::z183::.pointer (some ⟨ib,6,none⟩)::(bif b1 then .int .i64 i.n else z185)::.pointer (some ⟨ib,5,none⟩)::(bif b3 then .slice i.a i.E.length i.c else z187)::(bif b4 then .pointer (some ⟨xb,6,none⟩) else z188)::(bif b6 then .pointer (some ⟨xb,5,none⟩) else z189)::z190::z191::z192::z193::z194::z195::[]).toArray) (Q:Exit→Act→World→Prop) (k:Nat) (L:Array Bool) (a:Act) (w:World) (h:Iins24 wA xb i fr (k + 1) L a w) :
  Region.ready .any opsins24 L ≠ []∧∀ i' ∈ Region.ready .any opsins24 L,wpOp Try.prog opsins24 Q i' (fun a' w'=>Iins24 wA xb i fr k (L.setIfInBounds i' true) a' w') a w:=by
 obtain ⟨b1,b3,b4,b5,b6,b7,hk,rfl,rfl,hM,hcon⟩:=h
 have hnt:nb true=0:=rfl
 have hnf:nb false=1:=rfl
 have hc:=rdyins24 b1 b3 b4 b5 b6 b7 hcon
 unfold chkins24 at hc
 have hn:(b1 && b3 && b4 && b5 && b6 && b7)=false:=by
  cases hq:(b1 && b3 && b4 && b5 && b6 && b7) with
  | false=>rfl
  | true=>
   simp only [Bool.and_eq_true] at hq
   obtain ⟨⟨⟨⟨⟨rfl,rfl⟩,rfl⟩,rfl⟩,rfl⟩,rfl⟩:=hq
   simp [nb] at hk
 rw [hn] at hc
 obtain ⟨c4,c5,c6,c7⟩:=hcon
 simp only [Bool.false_or,Bool.and_eq_true,List.all_eq_true,Bool.not_eq_true'] at hc
 refine ⟨fun h0=>by rw [h0] at hc; simp at hc,fun i' hi'=>?_⟩
 have hi2:=hc.2 i' hi'
 clear hc hi' hn
 split at hi2
 ·simp only [Bool.not_eq_true'] at hi2
  subst hi2
  have c:=cell_next hi.c6 hM.1
  refine wpOp_one (o:=ogA39) (by rfl) rfl ?_
  unfold ogA39
  generalize hK:(fun a' w'=>Iins24 wA xb i fr k ((arrins24 false b3 b4 b5 b6 b7).setIfInBounds 1 true) a' w')=K
  rw [hfr]
  unfold Oper.wp
  go_simp
  subst hK
  exact ⟨true,b3,b4,b5,b6,b7,by omega,rfl,by rw [hfr]; rfl,hM,⟨by first | exact c4 | exact fun _=>rfl | (intro q; have:=c4 q; simp at this),by first | exact c5 | exact fun _=>rfl | (intro q; have:=c5 q; simp at this),by first | exact c6 | exact fun _=>rfl | (intro q; have:=c6 q; simp at this),by first | exact c7 | exact fun _=>rfl | (intro q; have:=c7 q; simp at this)⟩⟩
 ·simp only [Bool.not_eq_true'] at hi2
  subst hi2
  have c:=cell_next hi.c5 hM.1
  refine wpOp_one (o:=ogA40) (by rfl) rfl ?_
  unfold ogA40
  generalize hK:(fun a' w'=>Iins24 wA xb i fr k ((arrins24 b1 false b4 b5 b6 b7).setIfInBounds 3 true) a' w')=K
  rw [hfr]
  unfold Oper.wp
  go_simp
  subst hK
  exact ⟨b1,true,b4,b5,b6,b7,by omega,rfl,by rw [hfr]; rfl,hM,⟨by first | exact c4 | exact fun _=>rfl | (intro q; have:=c4 q; simp at this),by first | exact c5 | exact fun _=>rfl | (intro q; have:=c5 q; simp at this),by first | exact c6 | exact fun _=>rfl | (intro q; have:=c6 q; simp at this),by first | exact c7 | exact fun _=>rfl | (intro q; have:=c7 q; simp at this)⟩⟩
 ·simp only [Bool.and_eq_true,Bool.not_eq_true'] at hi2
  obtain ⟨rfl,rfl⟩:=hi2
  refine wpOp_one (o:=ogA41) (by rfl) rfl ?_
  unfold ogA41
  generalize hK:(fun a' w'=>Iins24 wA xb i fr k ((arrins24 true b3 false b5 b6 b7).setIfInBounds 4 true) a' w')=K
  rw [hfr]
  unfold Oper.wp
  go_simp
  subst hK
  exact ⟨true,b3,true,b5,b6,b7,by omega,rfl,by rw [hfr]; rfl,hM,⟨by first | exact c4 | exact fun _=>rfl | (intro q; have:=c4 q; simp at this),by first | exact c5 | exact fun _=>rfl | (intro q; have:=c5 q; simp at this),by first | exact c6 | exact fun _=>rfl | (intro q; have:=c6 q; simp at this),by first | exact c7 | exact fun _=>rfl | (intro q; have:=c7 q; simp at this)⟩⟩
 ·simp only [Bool.and_eq_true,Bool.not_eq_true'] at hi2
  obtain ⟨⟨rfl,rfl⟩,rfl⟩:=hi2
  obtain ⟨⟨vo,c⟩,d⟩:=hM.cell 6 (by omega)
  refine wpOp_one (o:=ogA42) (by rfl) rfl ?_
  unfold ogA42
  generalize hK:(fun a' w'=>Iins24 wA xb i fr k ((arrins24 true b3 true false b6 b7).setIfInBounds 5 true) a' w')=K
  rw [hfr]
  unfold Oper.wp
  go_simp
  subst hK
  exact ⟨true,b3,true,true,b6,b7,by omega,rfl,by rw [hfr]; rfl,hM.set6 hx _,⟨by first | exact c4 | exact fun _=>rfl | (intro q; have:=c4 q; simp at this),by first | exact c5 | exact fun _=>rfl | (intro q; have:=c5 q; simp at this),by first | exact c6 | exact fun _=>rfl | (intro q; have:=c6 q; simp at this),by first | exact c7 | exact fun _=>rfl | (intro q; have:=c7 q; simp at this)⟩⟩
 ·simp only [Bool.and_eq_true,Bool.not_eq_true'] at hi2
  obtain ⟨⟨⟨⟨rfl,rfl⟩,rfl⟩,rfl⟩,rfl⟩:=hi2
  refine wpOp_one (o:=ogA43) (by rfl) rfl ?_
  unfold ogA43
  generalize hK:(fun a' w'=>Iins24 wA xb i fr k ((arrins24 true true true true false b7).setIfInBounds 6 true) a' w')=K
  rw [hfr]
  unfold Oper.wp
  go_simp
  subst hK
  exact ⟨true,true,true,true,true,b7,by omega,rfl,by rw [hfr]; rfl,hM,⟨by first | exact c4 | exact fun _=>rfl | (intro q; have:=c4 q; simp at this),by first | exact c5 | exact fun _=>rfl | (intro q; have:=c5 q; simp at this),by first | exact c6 | exact fun _=>rfl | (intro q; have:=c6 q; simp at this),by first | exact c7 | exact fun _=>rfl | (intro q; have:=c7 q; simp at this)⟩⟩
 ·simp only [Bool.and_eq_true,Bool.not_eq_true'] at hi2
  obtain ⟨⟨⟨⟨⟨rfl,rfl⟩,rfl⟩,rfl⟩,rfl⟩,rfl⟩:=hi2
  obtain ⟨⟨vo,c⟩,d⟩:=hM.cell 5 (by omega)
  refine wpOp_one (o:=ogA44) (by rfl) rfl ?_
  unfold ogA44
  generalize hK:(fun a' w'=>Iins24 wA xb i fr k ((arrins24 true true true true true false).setIfInBounds 7 true) a' w')=K
  rw [hfr]
  unfold Oper.wp
  go_simp
  subst hK
  exact ⟨true,true,true,true,true,true,by omega,rfl,by rw [hfr]; rfl,hM.set5 hx,⟨by first | exact c4 | exact fun _=>rfl | (intro q; have:=c4 q; simp at this),by first | exact c5 | exact fun _=>rfl | (intro q; have:=c5 q; simp at this),by first | exact c6 | exact fun _=>rfl | (intro q; have:=c6 q; simp at this),by first | exact c7 | exact fun _=>rfl | (intro q; have:=c7 q; simp at this)⟩⟩
 ·cases hi2
set_option maxRecDepth 100000 in
set_option maxHeartbeats 8000000 in
theorem ins24_l (wA w:World) (ib xb:Nat) (i:Ins) (hi:LCells wA ib 0 i) (hx:wA.heap.size≤xb) (hM:XM wA xb i w) (z0 z1 z2 z4 z5 z6 z7 z8 z9 z11 z12 z13 z14 z15 z16 z17 z18 z19 z20 z21 z22 z23 z24 z25 z26 z27 z28 z29 z30 z31 z32 z33 z34 z35 z36 z37 z38 z39 z40 z41 z42 z43 z44 z45 z46 z47 z48 z49 z50 z51 z52 z53 z54 z55 z56 z57 z58 z59 z60 z61 z62 z63 z64 z65 z66 z67 z68 z69 z70 z71 z72 z73 z74 z75 z76 z77 z78 z79 z80 z81 z82 z83 z84 z85 z86 z87 z88 z89 z90 z91 z92 z93 z94 z95 z96 z97 z98 z99 z100 z101 z102 z103 z104 z105 z106 z107 z108 z109 z110 z111 z112 z113 z114 z115 z116 z117 z118 z119 z120 z121 z122 z123 z124 z125 z126 z127 z128 z129 z130 z131 z132 z133 z134 z135 z136 z137 z138 z139 z140 z141 z142 z143 z144 z145 z146 z147 z148 z149 z150 z151 z152 z153 z154 z155 z156 z157 z158 z159 z160 z161 z162 z163 z164 z165 z166 z167 z168 z169 z170 z171 z172 z173 z174 z175 z176 z177 z178 z179 z180 z181 z182 z183 z184 z185 z186 z187 z188 z189 z190 z191 z192 z193 z194 z195:Value) (Q:Exit→Act→World→Prop)
  (hQp:∀ c (a:Act) (d:Tmp) v w,Q (.panic c) (a.put (some d) v) w→Q (.panic c) a w)
  (hQ:∀ (y184 y185 y186 y187 y188 y189:Value) (W':World),XM wA xb i W'→Q .normal { tmps:=(z0::z1::z2::.pointer (some ⟨ib,0,none⟩)::z4::z5::z6::z7::z8::z9::.pointer (some ⟨xb,0,none⟩)::z11::z12::z13::z14::z15::z16::z17::z18::z19::z20::z21::z22::z23::z24::z25::z26::z27::z28::z29::z30::z31::z32::z33::z34::z35::z36::z37::z38::z39::z40::z41::z42::z43::z44::z45::z46::z47::z48::z49::z50::z51::z52::z53::z54::z55::z56::z57::z58::z59::z60::z61::z62::z63::z64::z65::z66::z67::z68::z69::z70::z71::z72::z73::z74::z75::z76::z77::z78::z79::z80::z81::z82::z83::z84::z85::z86::z87::z88::z89::z90::z91::z92::z93::z94::z95::z96::z97::z98::z99::z100::z101::z102::z103::z104::z105::z106::z107::z108::z109::z110::z111::z112::z113::z114::z115::z116::z117::z118::z119::z120::z121::z122::z123::z124::z125::z126::z127::z128::z129::z130::z131::z132::z133::z134::z135::z136::z137::z138::z139::z140::z141::z142::z143::z144::z145::z146::z147::z148::z149::z150::z151::z152::z153::z154::z155::z156::z157::z158::z159::z160::z161::z162::z163::z164::z165::z166::z167::z168::z169::z170::z171::z172::z173::z174::z175::z176::z177::z178::z179::z180::z181::z182::z183::y184::y185::y186::y187::y188::y189::z190::z191::z192::z193::z194::z195::[]).toArray,defers:=[] } W') :
  Code.wp Try.prog (Code.region 24 rgA4 true) Q { tmps:=(z0::z1::z2::.pointer (some ⟨ib,0,none⟩)::z4::z5::z6::z7::z8::z9::.pointer (some ⟨xb,0,none⟩)::z11::z12::z13::z14::z15::z16::z17::z18::z19::z20::z21::z22::z23::z24::z25::z26::z27::z28::z29::z30::z31::z32::z33::z34::z35::z36::z37::z38::z39::z40::z41::z42::z43::z44::z45::z46::z47::z48::z49::z50::z51::z52::z53::z54::z55::z56::z57::z58::z59::z60::z61::z62::z63::z64::z65::z66::z67::z68::z69::z70::z71::z72::z73::z74::z75::z76::z77::z78::z79::z80::z81::z82::z83::z84::z85::z86::z87::z88::z89::z90::z91::z92::z93::z94::z95::z96::z97::z98::z99::z100::z101::z102::z103::z104::z105::z106::z107::z108::z109::z110::z111::z112::z113::z114::z115::z116::z117::z118::z119::z120::z121::z122::z123::z124::z125::z126::z127::z128::z129::z130::z131::z132::z133::z134::z135::z136::z137::z138::z139::z140::z141::z142::z143::z144::z145::z146::z147::z148::z149::z150::z151::z152::z153::z154::z155::z156::z157::z158::z159::z160::z161::z162::z163::z164::z165::z166::z167::z168::z169::z170::z171::z172::z173::z174::z175::z176::z177::z178::z179::z180::z181::z182::z183::z184::z185::z186::z187::z188::z189::z190::z191::z192::z193::z194::z195::[]).toArray,defers:=[] } w:=by
 unfold rgA4
 refine wp_region_any (by kernel_rfl) ?_
 have hMd:=hM.drew
 clear hM
 change wpAny _ _ _ _ _ _ _ (World.drew _)
 generalize World.drew w=w2 at hMd ⊢
 refine wpAny_take (i:=0) (v:=.pointer (some ⟨ib,6,none⟩)) rfl (by kernel_rfl) (by kernel_rfl) (by kernel_rfl) (fun c a w=>hQp c a _ _ w) (Or.inl ⟨by rfl,?_⟩) ?_
 ·intro w
  go_simp
 refine wpAny_take (i:=2) (v:=.pointer (some ⟨ib,5,none⟩)) rfl (by kernel_rfl) (by kernel_rfl) (by kernel_rfl) (fun c a w=>hQp c a _ _ w) (Or.inl ⟨by rfl,?_⟩) ?_
 ·intro w
  go_simp
 show wpAny _ _ opsins24 _ (0 + 6) _ _ _
 refine wpAny_inv (I:=Iins24 wA xb i (fun b1 b3 b4 b5 b6 b7=>(z0::z1::z2::.pointer (some ⟨ib,0,none⟩)::z4::z5::z6::z7::z8::z9::.pointer (some ⟨xb,0,none⟩)::z11::z12::z13::z14::z15::z16::z17::z18::z19::z20::z21::z22::z23::z24::z25::z26::z27::z28::z29::z30::z31::z32::z33::z34::z35::z36::z37::z38::z39::z40::z41::z42::z43::z44::z45::z46::z47::z48::z49::z50::z51::z52::z53::z54::z55::z56::z57::z58::z59::z60::z61::z62::z63::z64::z65::z66::z67::z68::z69::z70::z71::z72::z73::z74::z75::z76::z77::z78::z79::z80::z81::z82::z83::z84::z85::z86::z87::z88::z89::z90::z91::z92::z93::z94::z95::z96::z97::z98::z99::z100::z101::z102::z103::z104::z105::z106::z107::z108::z109::z110::z111::z112::z113::z114::z115::z116::z117::z118::z119::z120::z121::z122::z123::z124::z125::z126::z127::z128::z129::z130::z131::z132::z133::z134::z135::z136::z137::z138::z139::z140::z141::z142::z143::z144::z145::z146::z147::z148::z149::z150::z151::z152::z153::z154::z155::z156::z157::z158::z159::z160::z161::z162::z163::z164::z165::z166::z167::z168::z169::z170::z171::z172::z173::z174::z175::z176::z177::z178::z179::z180::z181::z182::z183::.pointer (some ⟨ib,6,none⟩)::(bif b1 then .int .i64 i.n else z185)::.pointer (some ⟨ib,5,none⟩)::(bif b3 then .slice i.a i.E.length i.c else z187)::(bif b4 then .pointer (some ⟨xb,6,none⟩) else z188)::(bif b6 then .pointer (some ⟨xb,5,none⟩) else z189)::z190::z191::z192::z193::z194::z195::[]).toArray)) (fun k L a w=>stepins24 wA ib xb i hi hx _ _ _ _ _ _ _ _ _ _ _ _ _ _ _ _ _ _ _ _ _ _ _ _ _ _ _ _ _ _ _ _ _ _ _ _ _ _ _ _ _ _ _ _ _ _ _ _ _ _ _ _ _ _ _ _ _ _ _ _ _ _ _ _ _ _ _ _ _ _ _ _ _ _ _ _ _ _ _ _ _ _ _ _ _ _ _ _ _ _ _ _ _ _ _ _ _ _ _ _ _ _ _ _ _ _ _ _ _ _ _ _ _ _ _ _ _ _ _ _ _ _ _ _ _ _ _ _ _ _ _ _ _ _ _ _ _ _ _ _ _ _ _ _ _ _ _ _ _ _ _ _ _ _ _ _ _ _ _ _ _ _ _ _ _ _ _ _ _ _ _ _ _ _ _ _ _ _ _ _ _ _ _ _ _ _ _ _ _ _ _ _ _ (fun _ _ _ _ _ _=>rfl) Q k L a w) ?_ 6 _ _ _ ⟨false,false,false,false,false,false,by kernel_rfl,by kernel_rfl,by kernel_rfl,hMd,by simp [conins24]⟩
 rintro L a w1 ⟨b1,b3,b4,b5,b6,b7,hk,rfl,rfl,hM,-⟩
 obtain ⟨rfl,rfl,rfl,rfl,rfl,rfl⟩:b1=true∧b3=true∧b4=true∧b5=true∧b6=true∧b7=true:=⟨nb0 _ (by omega),nb0 _ (by omega),nb0 _ (by omega),nb0 _ (by omega),nb0 _ (by omega),nb0 _ (by omega)⟩
 clear hk
 refine wpAny_done (by kernel_rfl) ?_ _
 exact hQ _ _ _ _ _ _ w1 hM
set_option maxRecDepth 100000 in
set_option maxHeartbeats 8000000 in
theorem ins15_l (wA w:World) (ib xb:Nat) (i:Ins) (hi:LCells wA ib 0 i) (hx:wA.heap.size≤xb) (hM:XM wA xb i w) (z0 z1 z2 z4 z5 z6 z7 z8 z9 z11 z12 z13 z14 z15 z16 z17 z18 z19 z20 z21 z22 z23 z24 z25 z26 z27 z28 z29 z30 z31 z32 z33 z34 z35 z36 z37 z38 z39 z40 z41 z42 z43 z44 z45 z46 z47 z48 z49 z50 z51 z52 z53 z54 z55 z56 z57 z58 z59 z60 z61 z62 z63 z64 z65 z66 z67 z68 z69 z70 z71 z72 z73 z74 z75 z76 z77 z78 z79 z80 z81 z82 z83 z84 z85 z86 z87 z88 z89 z90 z91 z92 z93 z94 z95 z96 z97 z98 z99 z100 z101 z102 z103 z104 z105 z106 z107 z108 z109 z110 z111 z112 z113 z114 z115 z116 z117 z118 z119 z120 z121 z122 z123 z124 z125 z126 z127 z128 z129 z130 z131 z132 z133 z134 z135 z136 z137 z138 z139 z140 z141 z142 z143 z144 z145 z146 z147 z148 z149 z150 z151 z152 z153 z154 z155 z156 z157 z158 z159 z160 z161 z162 z163 z164 z165 z166 z167 z168 z169 z170 z171 z172 z173 z174 z175 z176 z177 z178 z179 z180 z181 z182 z183 z184 z185 z186 z187 z188 z189 z190 z191 z192 z193 z194 z195:Value) (Q:Exit→Act→World→Prop)
  (hQ:∀ (y97 y98 y99:Value) (W':World),XM wA xb i W'→Q .normal { tmps:=(z0::z1::z2::.pointer (some ⟨ib,0,none⟩)::z4::z5::z6::z7::z8::z9::.pointer (some ⟨xb,0,none⟩)::z11::z12::z13::z14::z15::z16::z17::z18::z19::z20::z21::z22::z23::z24::z25::z26::z27::z28::z29::z30::z31::z32::z33::z34::z35::z36::z37::z38::z39::z40::z41::z42::z43::z44::z45::z46::z47::z48::z49::z50::z51::z52::z53::z54::z55::z56::z57::z58::z59::z60::z61::z62::z63::z64::z65::z66::z67::z68::z69::z70::z71::z72::z73::z74::z75::z76::z77::z78::z79::z80::z81::z82::z83::z84::z85::z86::z87::z88::z89::z90::z91::z92::z93::z94::z95::z96::y97::y98::y99::z100::z101::z102::z103::z104::z105::z106::z107::z108::z109::z110::z111::z112::z113::z114::z115::z116::z117::z118::z119::z120::z121::z122::z123::z124::z125::z126::z127::z128::z129::z130::z131::z132::z133::z134::z135::z136::z137::z138::z139::z140::z141::z142::z143::z144::z145::z146::z147::z148::z149::z150::z151::z152::z153::z154::z155::z156::z157::z158::z159::z160::z161::z162::z163::z164::z165::z166::z167::z168::z169::z170::z171::z172::z173::z174::z175::z176::z177::z178::z179::z180::z181::z182::z183::z184::z185::z186::z187::z188::z189::z190::z191::z192::z193::z194::z195::[]).toArray,defers:=[] } W') :
  Code.wp Try.prog (Code.region 15 rgA5 false) Q { tmps:=(z0::z1::z2::.pointer (some ⟨ib,0,none⟩)::z4::z5::z6::z7::z8::z9::.pointer (some ⟨xb,0,none⟩)::z11::z12::z13::z14::z15::z16::z17::z18::z19::z20::z21::z22::z23::z24::z25::z26::z27::z28::z29::z30::z31::z32::z33::z34::z35::z36::z37::z38::z39::z40::z41::z42::z43::z44::z45::z46::z47::z48::z49::z50::z51::z52::z53::z54::z55::z56::z57::z58::z59::z60::z61::z62::z63::z64::z65::z66::z67::z68::z69::z70::z71::z72::z73::z74::z75::z76::z77::z78::z79::z80::z81::z82::z83::z84::z85::z86::z87::z88::z89::z90::z91::z92::z93::z94::z95::z96::z97::z98::z99::z100::z101::z102::z103::z104::z105::z106::z107::z108::z109::z110::z111::z112::z113::z114::z115::z116::z117::z118::z119::z120::z121::z122::z123::z124::z125::z126::z127::z128::z129::z130::z131::z132::z133::z134::z135::z136::z137::z138::z139::z140::z141::z142::z143::z144::z145::z146::z147::z148::z149::z150::z151::z152::z153::z154::z155::z156::z157::z158::z159::z160::z161::z162::z163::z164::z165::z166::z167::z168::z169::z170::z171::z172::z173::z174::z175::z176::z177::z178::z179::z180::z181::z182::z183::z184::z185::z186::z187::z188::z189::z190::z191::z192::z193::z194::z195::[]).toArray,defers:=[] } w:=by
 unfold rgA5
 have c:=cell_next hi.c1 hM.1
 obtain ⟨⟨vo,d⟩,f⟩:=hM.cell 1 (by omega)
 have h1:=fun x=>hM.set1 hx x
 clear hM hi
 have HQ:=Lib.hid hQ
 clear hQ
 go_wp2_with fail
 exact HQ.out _ _ _ _ (h1 _)
end Go.Proofs.Yteghpophcnehgaa
