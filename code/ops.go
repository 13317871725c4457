package code

import (
	"math"

	"hindcast/api"
)

// operand is what an instruction's A tells.
type operand int

const (
	always0   operand = iota // nothing
	aNumber                  // any number
	aTruth                   // a truth
	aText                    // which text
	aSlot                    // which slot of the unit
	anIns                    // which instruction of the unit
	aUnit                    // which unit, whose parameters are taken, and whose result is put
	aShape                   // which shape, whose fields are taken
	ownResult                // how many results the unit has, which are taken
	howMany                  // how many values are taken
)

// op is what an instruction's Op alone says of it; what it takes and puts beside that hangs on its operand.
type op struct {
	name    string
	operand operand
	takes   int
	puts    int
}

// ops stand in the order of their numbers.
var ops = [...]op{
	{"mark", aNumber, 0, 0},
	{"int", aNumber, 0, 1},
	{"bool", aTruth, 0, 1},
	{"str", aText, 0, 1},
	{"load", aSlot, 0, 1},
	{"store", aSlot, 1, 0},
	{"pop", always0, 1, 0},
	{"add", always0, 2, 1},
	{"sub", always0, 2, 1},
	{"mul", always0, 2, 1},
	{"div", always0, 2, 1},
	{"rem", always0, 2, 1},
	{"neg", always0, 1, 1},
	{"not", always0, 1, 1},
	{"eq", always0, 2, 1},
	{"ne", always0, 2, 1},
	{"lt", always0, 2, 1},
	{"le", always0, 2, 1},
	{"gt", always0, 2, 1},
	{"ge", always0, 2, 1},
	{"jump", anIns, 0, 0},
	{"unless", anIns, 1, 0},
	{"call", aUnit, 0, 0},
	{"return", ownResult, 0, 0},
	{"array", howMany, 0, 1},
	{"new", aShape, 0, 1},
	{"index", always0, 2, 1},
	{"setindex", always0, 3, 0},
	{"field", aText, 1, 1},
	{"setfield", aText, 2, 0},
	{"len", always0, 1, 1},
	{"show", always0, 1, 1},
	{"fill", always0, 2, 1},
	{"input", always0, 0, 1},
	{"print", howMany, 0, 0},
}

func isOp(o api.Op) bool { return 0 <= o && int(o) < len(ops) }

// bounds tells the least and the greatest A that an operand of a unit's instruction may be.
func bounds(c api.Code, u api.Unit, o operand) (least, most int) {
	switch o {
	case aNumber:
		return math.MinInt, math.MaxInt
	case aTruth:
		return 0, 1
	case aText:
		return 0, len(c.Strs) - 1
	case aSlot:
		return 0, u.Slots - 1
	case anIns:
		return 0, len(u.Ins) - 1
	case aUnit:
		return 0, len(c.Units) - 1
	case aShape:
		return 0, len(c.Shapes) - 1
	case ownResult:
		return results(u), results(u)
	case howMany:
		return 1, api.MaxStack
	}
	return 0, 0
}

// effect tells how many values an instruction takes, and how many it puts.
func effect(c api.Code, i api.Ins) (takes, puts int) {
	o := ops[i.Op]
	switch o.operand {
	case aUnit:
		called := c.Units[i.A]
		return called.Params, results(called)
	case aShape:
		return len(c.Shapes[i.A].Fields), o.puts
	case ownResult, howMany:
		return i.A, o.puts
	}
	return o.takes, o.puts
}

// behind tells which instructions may come behind one.
func behind(at int, i api.Ins) []int {
	switch i.Op {
	case api.OpJump:
		return []int{i.A}
	case api.OpUnless:
		return []int{at + 1, i.A}
	case api.OpReturn:
		return nil
	}
	return []int{at + 1}
}

func results(u api.Unit) int {
	if u.Result {
		return 1
	}
	return 0
}
