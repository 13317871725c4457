package vm

import (
	"fmt"
	"math/rand/v2"
	"slices"
	"strings"
	"testing"

	"hindcast/api"
	"hindcast/code"
)

// maker makes codes by chance, most of which no program has. It guesses at the kinds of values, so that runs go on for a while.
type maker struct {
	*rand.Rand
	c     api.Code
	unit  *api.Unit
	stack string // what is guessed to lie on the stack: n, t, s, r, or ? for what may be anything
	jumps []int  // instructions whose A is a block yet
}

// slotKinds is the kind of values that a slot has.
const slotKinds = "nntsr?"

// moves are instructions, what they take, and what they put.
var moves = strings.Fields("add:nn:n add:ss:s add:ss:s add:ss:s sub:nn:n mul:nn:n div:nn:n div:nn:n rem:nn:n rem:nn:n neg:n:n not:t:t eq:**:t ne:**:t lt:nn:t le:ss:t gt:nn:t ge:ss:t index:rn:? setindex:rn?: setindex:rnn: field:r:n setfield:rn: len:r:n len:s:n show:n:s show:t:s fill:nn:r pop:*: store:*: store:*: array:n:r array:nn:r array:sr:r new:n:r new:nn:r new:tn:r print:*: print:**: call::")

func (k *maker) code() api.Code {
	k.c = api.Code{Strs: someStrs, Shapes: someShapes}
	for n := range 1 + k.IntN(4) {
		u := api.Unit{Name: fmt.Sprint("u", n), Params: k.IntN(4), Stack: 12, Result: k.IntN(2) == 0}
		u.Slots = max(u.Params, 6)
		k.c.Units = append(k.c.Units, u)
	}
	k.c.Main = k.IntN(len(k.c.Units))
	main := &k.c.Units[k.c.Main]
	main.Params, main.Result = 0, false
	for n := range k.c.Units {
		k.unit = &k.c.Units[n]
		k.fill()
	}
	return k.c
}

func (k *maker) put(op string, a int, puts string) {
	k.unit.Ins = append(k.unit.Ins, api.Ins{Op: opOf(op), A: a})
	k.stack += puts
}

func (k *maker) fill() {
	k.stack, k.jumps = "", nil
	var blocks []int
	for n := range 6 {
		if n >= k.unit.Params && k.IntN(4) > 0 {
			k.push(slotKinds[n])
			k.drop(1)
			k.put("store", n, "")
		}
	}
	for range 1 + k.IntN(6) {
		blocks = append(blocks, len(k.unit.Ins))
		k.block()
	}
	if k.unit.Result {
		k.push('?')
		k.put("return", 1, "")
	} else {
		k.put("return", 0, "")
	}
	for _, at := range k.jumps {
		k.unit.Ins[at].A = blocks[k.IntN(len(blocks))]
	}
	for n := range k.IntN(4) {
		from := k.IntN(len(k.unit.Ins) + 1)
		k.unit.Vars = append(k.unit.Vars, api.Var{Name: fmt.Sprint("v", n), Slot: k.IntN(k.unit.Slots), From: from, To: from + k.IntN(len(k.unit.Ins)-from+1)})
	}
}

// block makes instructions that begin and end with an empty stack.
func (k *maker) block() {
	if k.IntN(4) > 0 {
		k.put("mark", k.IntN(100), "")
	}
	for range k.IntN(12) {
		if len(k.stack) < 3 || len(k.stack) < 8 && k.IntN(3) == 0 {
			k.push("nntsr?"[k.IntN(6)])
		} else {
			k.move()
		}
	}
	for len(k.stack) > 1 {
		k.put(pick(k.Rand, "pop", "store"), 0, "")
		k.drop(1)
	}
	if len(k.stack) == 1 && (k.stack == "t" || k.IntN(20) == 0) {
		k.jumps = append(k.jumps, len(k.unit.Ins))
		k.put("unless", 0, "")
		k.drop(1)
	} else if len(k.stack) == 1 {
		k.put("print", 1, "")
		k.drop(1)
	}
	if k.IntN(6) == 0 {
		k.jumps = append(k.jumps, len(k.unit.Ins))
		k.put("jump", 0, "")
	}
}

func (k *maker) drop(n int) { k.stack = k.stack[:len(k.stack)-n] }

// push puts a value of a kind.
func (k *maker) push(kind byte) {
	if k.IntN(3) == 0 {
		if n := strings.IndexByte(slotKinds, kind); kind != '?' || k.IntN(5) == 0 {
			k.put("load", n, string(kind))
			return
		}
	}
	switch kind {
	case 'n':
		if k.IntN(8) == 0 {
			k.put("input", 0, "n")
		} else {
			k.put("int", pick(k.Rand, 0, 1, 2, 3, -1, 1<<63-1, -1<<63), "n")
		}
	case 't':
		k.put("bool", k.IntN(2), "t")
	case 's':
		k.put("str", k.IntN(len(someStrs)), "s")
	case 'r':
		k.push('n')
		k.put("array", 1, "r")
		k.stack = k.stack[:len(k.stack)-2] + "r"
	default:
		k.push("nts"[k.IntN(3)])
	}
}

// move makes an instruction that takes what there is, mostly of the kinds that it wants.
func (k *maker) move() {
	for {
		parts := strings.Split(pick(k.Rand, moves...), ":")
		op, takes, puts := parts[0], parts[1], parts[2]
		a := 0
		switch op {
		case "store":
			a = k.IntN(k.unit.Slots)
		case "array", "print":
			a = len(takes)
		case "new":
			a = len(takes) - 1
		case "field", "setfield":
			a = k.IntN(3)
		case "call":
			a = k.IntN(len(k.c.Units))
			takes, puts = strings.Repeat("*", k.c.Units[a].Params), ""
			if k.c.Units[a].Result {
				puts = "?"
			}
		}
		if len(takes) > len(k.stack) {
			continue
		}
		top := k.stack[len(k.stack)-len(takes):]
		fits := true
		for n := range takes {
			fits = fits && (takes[n] == '*' || takes[n] == top[n])
		}
		if !fits && k.IntN(60) > 0 {
			continue
		}
		k.drop(len(takes))
		k.put(op, a, puts)
		return
	}
}

// P9.1 to P9.4, P9.6: codes by chance, position by position held against the chapter's words.
func TestCodesByChance(t *testing.T) {
	t.Parallel()
	ended, positions := map[api.Fault]int{}, 0
	for seed := range uint64(2500) {
		k := &maker{Rand: rand.New(rand.NewPCG(seed, 1))}
		c := k.code()
		if code.Check(c) != api.OK {
			t.Fatalf("the test is wrong: seed %d makes no right code", seed)
		}
		lim := someLimits(k.Rand)
		lim.Steps = 1 + k.IntN(40)
		all := expectRun(t, fmt.Sprint("seed ", seed), c, someInput(k.Rand), lim)
		if t.Failed() {
			t.FailNow()
		}
		ended[all[len(all)-1].Fault]++
		positions += len(all)
	}
	for fault := api.NoFault; fault <= api.FaultKind; fault++ {
		if ended[fault] < 5 {
			t.Errorf("only %d runs end for the fault %d", ended[fault], fault)
		}
	}
	if positions < 10000 {
		t.Errorf("only %d positions", positions)
	}
}

// spoil changes something of a state.
func (k *maker) spoil(s *api.State) {
	near := func(n *int) { *n += pick(k.Rand, -1, 1, 1, 2, -100) }
	val := pick(k.Rand, none, num(3), boolean(1), txt("a"), ref(0), ref(1), ref(len(s.Heap)), boolean(2), api.Val{Kind: 5}, api.Val{Kind: api.VRef, N: -1}, txt("\t"))
	if k.IntN(3) > 0 && len(s.Calls) > 0 {
		x := &s.Calls[k.IntN(len(s.Calls))]
		switch k.IntN(8) {
		case 0:
			near(&x.Unit)
		case 1:
			near(&x.At)
		case 2:
			near(&x.Mark)
		case 3:
			x.At = k.IntN(len(k.c.Units[k.IntN(len(k.c.Units))].Ins))
			x.Mark = pick(k.Rand, x.At, x.Mark, -1)
		case 4:
			x.Slots = spoilt(k, x.Slots, val)
		case 5:
			x.Stack = spoilt(k, x.Stack, val)
		case 6:
			if len(x.Slots) > 0 {
				x.Slots[k.IntN(len(x.Slots))] = val
			}
		case 7:
			if len(x.Stack) > 0 {
				x.Stack[k.IntN(len(x.Stack))] = val
			}
		}
		return
	}
	switch k.IntN(8) {
	case 0:
		s.Pos = k.IntN(45) - 2
	case 1:
		s.Status = api.Status(k.IntN(5) - 1)
	case 2:
		s.Fault = api.Fault(k.IntN(14) - 1)
	case 3:
		s.Status, s.Fault = api.Faulty, api.Fault(1+k.IntN(10))
	case 4:
		if len(s.Calls) > 0 {
			s.Calls = spoilt(k, s.Calls, s.Calls[k.IntN(len(s.Calls))])
		}
	case 5:
		s.Heap = spoilt(k, s.Heap, obj(pick(k.Rand, "", "P", "Q", "Z", "no name"), val))
	case 6:
		s.Out += strings.Repeat("x", k.IntN(1000))
	case 7:
		near(&s.Read)
	}
}

// spoilt tells a list with one more, or one fewer.
func spoilt[T any](k *maker, l []T, x T) []T {
	if n := k.IntN(len(l) + 1); n < len(l) && k.IntN(2) == 0 {
		return slices.Delete(slices.Clone(l), n, n+1)
	}
	return append(slices.Clone(l), x)
}

// P9.4: states by chance, near to those of a run: which may be is as the chapter's words have it, and what may be goes on as they say, though no run comes to it.
func TestStatesByChance(t *testing.T) {
	t.Parallel()
	told := map[api.Errno]int{}
	for seed := range uint64(6000) {
		k := &maker{Rand: rand.New(rand.NewPCG(seed, 2))}
		c, input := k.code(), someInput(k.Rand)
		lim := someLimits(k.Rand)
		lim.Steps = 1 + k.IntN(40)
		m := mustNew(t, c, input, lim)
		m.Run(k.IntN(20))
		s := cloned(m.State())
		for range 1 + k.IntN(2) {
			k.spoil(&s)
		}
		was := shown(s)
		want := api.ErrFormat
		if mayBeByWords(c, input, lim, s) {
			want = api.OK
		}
		m, err := Load(c, input, lim, s)
		if err != want || (m != nil) != (want == api.OK) || shown(s) != was {
			t.Fatalf("seed %d: error %d, not %d: %s", seed, err, want, shown(s))
		}
		told[err]++
		if err == api.OK {
			expectFrom(t, fmt.Sprint("seed ", seed), c, input, lim, m, s)
		}
		if t.Failed() {
			t.FailNow()
		}
	}
	if told[api.OK] < 1000 || told[api.ErrFormat] < 1000 {
		t.Errorf("of states by chance: %v", told)
	}
}

// Every call ends and none panics, at all arguments.
func TestAnything(t *testing.T) {
	r := rand.New(rand.NewPCG(3, 3))
	number := func() int { return pick(r, 0, 0, 1, 1, 2, 3, -1, 1<<63-1, -1<<63) }
	for range 3000 {
		k := &maker{Rand: r}
		c := k.code()
		if r.IntN(3) == 0 {
			c.Main = number()
		}
		if u := &c.Units[r.IntN(len(c.Units))]; r.IntN(3) == 0 {
			u.Ins[r.IntN(len(u.Ins))] = api.Ins{Op: api.Op(r.IntN(38) - 1), A: number()}
		}
		lim := api.Limits{Steps: 1 + r.IntN(9), Heap: r.IntN(99), Frames: 1 + r.IntN(9), Out: r.IntN(99)}
		if r.IntN(3) == 0 {
			lim = api.Limits{Steps: number(), Heap: number(), Frames: number(), Out: number()}
		}
		s := api.State{Pos: number(), Status: api.Status(number()), Fault: api.Fault(number()), Read: number()}
		for range r.IntN(3) {
			s.Calls = append(s.Calls, api.Called{Unit: number(), At: number(), Mark: number(), Slots: make([]api.Val, r.IntN(8)), Stack: make([]api.Val, r.IntN(3))})
			s.Heap = append(s.Heap, obj(pick(r, "", "P", "\n"), api.Val{Kind: api.ValKind(number()), N: number()}))
		}
		for _, make := range []func() (*Machine, api.Errno){
			func() (*Machine, api.Errno) { return New(c, nil, lim) },
			func() (*Machine, api.Errno) { return Load(c, nil, lim, s) },
		} {
			m, err := make()
			if (m == nil) != (err != api.OK) {
				t.Fatalf("a machine and error %d", err)
			}
			m.Run(20)
			m.Copy().Step()
			m.Look()
			m.State()
			m.Heap()
		}
	}
}
