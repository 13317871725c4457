package code

import (
	"fmt"
	"math"
	"math/rand/v2"
	"reflect"
	"slices"
	"testing"

	"hindcast/api"
)

// chance tells things by chance, the same each time.
type chance struct{ *rand.Rand }

func newChance(seed int) chance { return chance{rand.New(rand.NewPCG(uint64(seed), 7))} }

// one tells one of a list.
func one[T any](c chance, l []T) T { return l[c.IntN(len(l))] }

// writer writes a unit's instructions by chance, such that they are right.
type writer struct {
	chance
	code api.Code
	unit *api.Unit
}

func (w writer) put(op api.Op, a int) int {
	w.unit.Ins = append(w.unit.Ins, api.Ins{Op: op, A: a})
	return len(w.unit.Ins) - 1
}

// here has the jump at a place lead to what is put next.
func (w writer) here(from int) { w.unit.Ins[from].A = len(w.unit.Ins) }

// value puts instructions that leave one value.
func (w writer) value(deep int) {
	k := w.IntN(14)
	if deep == 0 {
		k = w.IntN(5)
	}
	switch {
	case k == 0 && len(w.code.Strs) > 0:
		w.put(api.OpStr, w.IntN(len(w.code.Strs)))
	case k == 1 && w.unit.Slots > 0:
		w.put(api.OpLoad, w.IntN(w.unit.Slots))
	case k == 2:
		w.put(api.OpBool, w.IntN(2))
	case k == 3:
		w.put(api.OpInput, 0)
	case k == 5:
		w.values(deep, 2)
		w.put(one(w.chance, []api.Op{api.OpAdd, api.OpSub, api.OpMul, api.OpDiv, api.OpRem, api.OpEq, api.OpNe, api.OpLt, api.OpLe, api.OpGt, api.OpGe, api.OpIndex, api.OpFill}), 0)
	case k == 6:
		w.values(deep, 1)
		w.put(one(w.chance, []api.Op{api.OpNeg, api.OpNot, api.OpLen, api.OpShow}), 0)
	case k == 7 && len(w.code.Strs) > 0:
		w.values(deep, 1)
		w.put(api.OpField, w.IntN(len(w.code.Strs)))
	case k == 8:
		n := 1 + w.IntN(4)
		w.values(deep, n)
		w.put(api.OpArray, n)
	case k == 9 && len(w.code.Shapes) > 0:
		n := w.IntN(len(w.code.Shapes))
		w.values(deep, len(w.code.Shapes[n].Fields))
		w.put(api.OpNew, n)
	case k == 10 || k == 11:
		w.call(deep, true)
	case k == 12 || k == 13:
		w.choice(deep)
	default:
		w.put(api.OpInt, int(w.Uint64())>>w.IntN(64))
	}
}

func (w writer) values(deep, n int) {
	for range n {
		w.value(deep - 1)
	}
}

// call puts a call that has a result, or has none, if there is such a unit.
func (w writer) call(deep int, result bool) {
	n := w.IntN(len(w.code.Units))
	if u := w.code.Units[n]; u.Result == result {
		w.values(deep, u.Params)
		w.put(api.OpCall, n)
	} else if result {
		w.put(api.OpInt, n)
	}
}

// choice puts two ways, which meet with one value more.
func (w writer) choice(deep int) {
	w.value(deep - 1)
	from := w.put(api.OpUnless, 0)
	w.value(deep - 1)
	end := w.put(api.OpJump, 0)
	w.here(from)
	w.value(deep - 1)
	w.here(end)
}

// statements put instructions that begin and end at the height 0.
func (w writer) statements(deep int) {
	for range w.IntN(4) {
		if w.IntN(4) > 0 {
			w.put(api.OpMark, w.IntN(99))
		}
		w.statement(deep)
	}
}

func (w writer) statement(deep int) {
	switch k := w.IntN(8); {
	case k == 0 && w.unit.Slots > 0:
		w.value(2)
		w.put(api.OpStore, w.IntN(w.unit.Slots))
	case k == 1:
		w.values(3, 3)
		w.put(api.OpSetIndex, 0)
	case k == 2 && len(w.code.Strs) > 0:
		w.values(3, 2)
		w.put(api.OpSetField, w.IntN(len(w.code.Strs)))
	case k == 3:
		n := 1 + w.IntN(3)
		w.values(2, n)
		w.put(api.OpPrint, n)
	case k == 4 && deep > 0:
		w.value(1)
		from := w.put(api.OpUnless, 0)
		w.statements(deep - 1)
		w.here(from)
	case k == 5 && deep > 0:
		begin := len(w.unit.Ins)
		w.value(1)
		from := w.put(api.OpUnless, 0)
		w.statements(deep - 1)
		w.put(api.OpJump, begin)
		w.here(from)
	case k == 6:
		w.call(2, false)
	case k == 7 && deep > 0:
		from := w.put(api.OpJump, 0)
		for range w.IntN(4) { // what is not reached may be anything
			w.put(one(w.chance, []api.Op{api.OpPop, api.OpAdd, api.OpMark, api.OpInput, api.OpSetIndex}), 0)
		}
		w.here(from)
	default:
		w.value(3)
		w.put(api.OpPop, 0)
	}
}

// rightCode tells a code that is right.
func (c chance) rightCode() api.Code {
	var code api.Code
	for range c.IntN(4) {
		code.Strs = append(code.Strs, one(c, []string{"", "a", "x y", "\n\"\\"}))
	}
	for n := range c.IntN(4) {
		code.Shapes = append(code.Shapes, api.Shape{Name: fmt.Sprint("P", n), Fields: someNames(1 + c.IntN(8))})
	}
	for n := range 1 + c.IntN(4) {
		params := c.IntN(4)
		code.Units = append(code.Units, api.Unit{Name: fmt.Sprint("f", n), Params: params, Slots: params + c.IntN(5), Result: c.IntN(2) == 0})
	}
	code.Main = c.IntN(len(code.Units))
	code.Units[code.Main].Params, code.Units[code.Main].Result = 0, false
	for n := range code.Units {
		u := &code.Units[n]
		w := writer{c, code, u}
		w.statements(3)
		if u.Result {
			w.value(2)
			w.put(api.OpReturn, 1)
		} else {
			w.put(api.OpReturn, 0)
		}
		for range c.IntN(4) {
			if to := c.IntN(len(u.Ins) + 1); u.Slots > 0 {
				u.Vars = append(u.Vars, api.Var{Name: one(c, someNames(12)), Slot: c.IntN(u.Slots), From: c.IntN(to + 1), To: to})
			}
		}
	}
	for n := range code.Units {
		for !rightStack(code, n) {
			code.Units[n].Stack++
		}
		code.Units[n].Stack += c.IntN(2) * c.IntN(3)
	}
	return code
}

// rightStack tells whether a unit's stack is enough.
func rightStack(c api.Code, n int) bool {
	_, ok := heightsByWords(c, c.Units[n])
	return ok
}

// number tells one that may be wrong anywhere, but is near to right ones.
func (c chance) number() int {
	if c.IntN(10) == 0 {
		return one(c, []int{math.MinInt, math.MaxInt, -1, 256, 257, 1 << 32})
	}
	return c.IntN(12) - 2
}

// spoilt does something to a code by chance, which may make it wrong.
func (c chance) spoilt(code api.Code) api.Code {
	u := &code.Units[c.IntN(len(code.Units))]
	at := c.IntN(len(u.Ins))
	switch c.IntN(13) {
	case 0:
		u.Ins[at].Op = api.Op(c.IntN(39) - 2)
	case 1, 2:
		u.Ins[at].A = c.number()
	case 3:
		u.Ins[at] = api.Ins{Op: api.Op(c.IntN(35)), A: c.IntN(3)}
	case 4:
		u.Ins = slices.Delete(u.Ins, at, at+1)
	case 5:
		u.Ins = slices.Insert(u.Ins, at, api.Ins{Op: one(c, []api.Op{api.OpMark, api.OpPop, api.OpInput, api.OpReturn, api.OpJump})})
	case 6:
		u.Stack += c.IntN(3) - 1
	case 7:
		u.Slots += c.IntN(5) - 2
	case 8:
		u.Params += c.IntN(3) - 1
	case 9:
		u.Result = !u.Result
	case 10:
		code.Main = c.IntN(6) - 1
	case 11:
		if len(u.Vars) > 0 {
			v := &u.Vars[c.IntN(len(u.Vars))]
			*one(c, []*int{&v.Slot, &v.From, &v.To}) = c.number()
		}
	case 12:
		*one(c, []*string{&u.Name, &code.Units[0].Name}) = one(c, []string{"f0", "f1", "f2", "let", "", "g"})
	}
	return code
}

// P7.1 to P7.6: codes by chance, right ones and such that are nearly so, against the chapter's words.
func TestRandomCodes(t *testing.T) {
	right := 0
	for seed := range 6000 {
		c := newChance(seed)
		code := c.rightCode()
		expectRight(t, fmt.Sprint("seed ", seed), code)
		for range 1 + c.IntN(2) {
			if len(code.Units[0].Ins) > 0 && !slices.ContainsFunc(code.Units, func(u api.Unit) bool { return len(u.Ins) == 0 }) {
				code = c.spoilt(clone(code))
			}
		}
		if rightByWords(code) {
			right++
			expectRight(t, fmt.Sprint("seed ", seed, ", spoilt"), code)
		} else {
			expectWrong(t, fmt.Sprint("seed ", seed, ", spoilt"), code)
		}
		if t.Failed() {
			t.Fatalf("seed %d: %v", seed, code)
		}
	}
	if right < 600 || right > 4000 {
		t.Errorf("%d of 6000 spoilt codes are right: what is tried is one-sided", right)
	}
}

// P7.6: each height is what each instruction ahead leaves, and at most the stack; what nothing leads to is not reached.
func TestHeightsFollow(t *testing.T) {
	for seed := range 1000 {
		code := newChance(seed).rightCode()
		for n, u := range code.Units {
			h, err := Heights(code, n)
			if err != api.OK || len(h) != len(u.Ins) || h[0] != 0 {
				t.Fatalf("seed %d: %v, %d", seed, h, err)
			}
			led := map[int]bool{0: true}
			for at, i := range u.Ins {
				if h[at] < -1 || h[at] > u.Stack {
					t.Fatalf("seed %d: the height %d at %d", seed, h[at], at)
				}
				if h[at] == -1 || i.Op == api.OpReturn {
					continue
				}
				takes, puts := effectByWords(code, i)
				next := []int{at + 1}
				switch i.Op {
				case api.OpJump:
					next = []int{i.A}
				case api.OpUnless:
					next = append(next, i.A)
				}
				for _, to := range next {
					led[to] = true
					if h[to] != h[at]-takes+puts {
						t.Fatalf("seed %d: %d at %d, %d at %d", seed, h[at], at, h[to], to)
					}
				}
			}
			for at := range u.Ins {
				if led[at] != (h[at] >= 0) {
					t.Fatalf("seed %d: the height %d at %d", seed, h[at], at)
				}
			}
		}
	}
}

// P7.1, P7.2: all units of a few instructions.
func TestAllSmallUnits(t *testing.T) {
	all := asm("mark; int; pop; add; return; jump 0; jump 1; jump 2; jump 3; unless 0; unless 1; unless 2; unless 3; call 0; call 1")
	right := 0
	for size := 1; size <= 4; size++ {
		l := make([]api.Ins, size)
		for n := range int(math.Pow(float64(len(all)), float64(size))) {
			for at := range l {
				l[at] = all[n%len(all)]
				n /= len(all)
			}
			for stack := range 3 {
				c := api.Code{Units: []api.Unit{{Name: "main", Stack: stack, Ins: l}, {Name: "f", Params: 1, Slots: 1, Stack: 1, Result: true, Ins: asm("load; return 1")}}}
				if !rightByWords(c) {
					expect(t, fmt.Sprint(l, stack), Check(c), api.ErrArg)
					continue
				}
				right++
				want, _ := heightsByWords(c, c.Units[0])
				if got, err := Heights(c, 0); err != api.OK || !slices.Equal(got, want) {
					t.Fatalf("%v, %d: %v, %d, not %v", l, stack, got, err, want)
				}
			}
		}
	}
	if right < 1000 {
		t.Errorf("only %d are right", right)
	}
}

// P7.3, P7.5: bytes by chance, near to those of a right code: what is read is as the chapter's words have it, and has just these bytes.
func TestRandomBytes(t *testing.T) {
	told := map[api.Errno]int{}
	for seed := range 30000 {
		c := newChance(seed)
		b := bytesOf(pieces(c.rightCode()))
		for range 1 + c.IntN(2) {
			at := c.IntN(len(b))
			switch c.IntN(4) {
			case 0:
				b[at] = byte(c.IntN(256))
			case 1:
				b[at] ^= 1 << c.IntN(8)
			case 2:
				b = slices.Insert(b, at, byte(c.IntN(256)))
			case 3:
				b = append(slices.Delete(b, at, at+1), 0)
			}
		}
		given := slices.Clone(b)
		got, err := Load(b)
		want, e := loadByWords(b)
		if err != e || !same(got, want) || !slices.Equal(b, given) {
			t.Fatalf("seed %d: %v, %d, not %v, %d", seed, got, err, want, e)
		}
		told[err]++
		if err != api.OK {
			if !reflect.DeepEqual(got, api.Code{}) {
				t.Fatalf("seed %d: something beside an error", seed)
			}
			continue
		}
		if back, err := Bytes(got); err != api.OK || !slices.Equal(back, b) {
			t.Fatalf("seed %d: %x is put as %x, %d", seed, b, back, err)
		}
	}
	for _, err := range []api.Errno{api.OK, api.ErrShort, api.ErrFormat, api.ErrBig, api.ErrArg} {
		if told[err] < 100 {
			t.Errorf("the error %d was told %d times only", err, told[err])
		}
	}
}

// Every call ends and none panics, at all arguments.
func TestAnyCode(t *testing.T) {
	for seed := range 20000 {
		c := newChance(seed)
		var code api.Code
		for range c.IntN(3) {
			code.Strs = append(code.Strs, one(c, []string{"", "a", "\x00"}))
		}
		for range c.IntN(3) {
			code.Shapes = append(code.Shapes, api.Shape{Name: one(c, []string{"P", "Q", ""}), Fields: someNames(c.IntN(3))})
		}
		for n := range c.IntN(3) {
			u := api.Unit{Name: fmt.Sprint("f", n), Params: c.number(), Slots: c.number(), Stack: c.number(), Result: c.IntN(2) == 0}
			for range c.IntN(6) {
				u.Ins = append(u.Ins, api.Ins{Op: api.Op(c.number() * 5), A: c.number()})
			}
			for range c.IntN(3) {
				u.Vars = append(u.Vars, api.Var{Name: one(c, []string{"x", ""}), Slot: c.number(), From: c.number(), To: c.number()})
			}
			code.Units = append(code.Units, u)
		}
		code.Main = c.number()
		if rightByWords(code) {
			expectRight(t, fmt.Sprint("seed ", seed), code)
		} else {
			expectWrong(t, fmt.Sprint("seed ", seed), code)
		}
		b := make([]byte, c.IntN(40))
		for i := range b {
			b[i] = byte(c.IntN(256) >> c.IntN(8))
		}
		if got, err := Load(b); err != loadError(b) || err != api.OK && !reflect.DeepEqual(got, api.Code{}) {
			t.Fatalf("seed %d: %x: %v, %d", seed, b, got, err)
		}
	}
}
