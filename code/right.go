package code

import (
	"slices"

	"hindcast/api"
	"hindcast/lex"
)

func isRight(c api.Code) bool {
	// What instructions name must be there before their heights may be asked for.
	return isRightOutside(c) &&
		every(c.Units, func(u api.Unit) bool { return isRightUnit(c, u) }) &&
		every(c.Units, func(u api.Unit) bool { return isRightlyReached(c, u) })
}

// isRightOutside tells whether a code is right but for what is in its units.
func isRightOutside(c api.Code) bool {
	return len(c.Strs) <= api.MaxStrs && every(c.Strs, isText) &&
		areNamed(c.Shapes, 0, api.MaxRecords, func(s api.Shape) string { return s.Name }) &&
		every(c.Shapes, isRightShape) &&
		areNamed(c.Units, 1, api.MaxFuncs, func(u api.Unit) string { return u.Name }) &&
		isRightMain(c)
}

func isRightShape(s api.Shape) bool {
	return areNamed(s.Fields, 1, api.MaxFields, func(field string) string { return field })
}

func isRightMain(c api.Code) bool {
	if !isIn(c.Main, 0, len(c.Units)-1) {
		return false
	}
	u := c.Units[c.Main]
	return u.Params == 0 && !u.Result
}

// isRightUnit tells whether a unit is right but for its heights.
func isRightUnit(c api.Code, u api.Unit) bool {
	return isIn(u.Params, 0, api.MaxParams) &&
		isIn(u.Slots, u.Params, api.MaxLocals) &&
		isIn(u.Stack, 0, api.MaxStack) &&
		isIn(len(u.Ins), 1, api.MaxIns) &&
		every(u.Vars, func(v api.Var) bool { return isRightVar(u, v) }) &&
		every(u.Ins, func(i api.Ins) bool { return isRightIns(c, u, i) })
}

func isRightVar(u api.Unit, v api.Var) bool {
	return isName(v.Name) && isIn(v.Slot, 0, u.Slots-1) && isIn(v.From, 0, v.To) && v.To <= len(u.Ins)
}

func isRightIns(c api.Code, u api.Unit, i api.Ins) bool {
	if !isOp(i.Op) {
		return false
	}
	least, most := bounds(c, u, ops[i.Op].operand)
	return isIn(i.A, least, most)
}

func isRightlyReached(c api.Code, u api.Unit) bool {
	_, right := reach(c, u)
	return right
}

// reach tells the heights of those instructions of a unit that are reached, unless one of them is not reached as it must be.
func reach(c api.Code, u api.Unit) (map[int]int, bool) {
	heights := map[int]int{0: 0}
	todo := []int{0} // those that are reached, and of which nobody has asked yet what comes behind them
	for len(todo) > 0 {
		at := todo[len(todo)-1]
		todo = todo[:len(todo)-1]
		left, right := leave(c, u, u.Ins[at], heights[at])
		if !right {
			return nil, false
		}
		for _, next := range behind(at, u.Ins[at]) {
			height, again := heights[next]
			switch {
			case next == len(u.Ins) || again && height != left:
				return nil, false
			case !again:
				heights[next] = left
				todo = append(todo, next)
			}
		}
	}
	return heights, true
}

// leave tells the height that an instruction leaves, unless it may not be reached at the height that there is.
func leave(c api.Code, u api.Unit, i api.Ins, height int) (int, bool) {
	takes, puts := effect(c, i)
	left := height - takes + puts
	switch {
	case height < takes || left > u.Stack,
		i.Op == api.OpMark && height != 0,
		i.Op == api.OpReturn && height != i.A:
		return 0, false
	}
	return left, true
}

// areNamed tells whether things are least to most, and each has a name that no other has.
func areNamed[T any](l []T, least, most int, name func(x T) string) bool {
	if !isIn(len(l), least, most) {
		return false
	}
	for i, x := range l {
		same := func(other T) bool { return name(other) == name(x) }
		if !isName(name(x)) || slices.ContainsFunc(l[:i], same) {
			return false
		}
	}
	return true
}

func every[T any](l []T, is func(x T) bool) bool {
	for _, x := range l {
		if !is(x) {
			return false
		}
	}
	return true
}

func isIn(n, least, most int) bool { return least <= n && n <= most }

func isText(s string) bool { return isWritten(api.TStr, s) }

func isName(s string) bool { return isWritten(api.TName, s) }

// isWritten tells whether there is such a token.
func isWritten(k api.TokKind, s string) bool {
	_, err := lex.Text(api.Tok{Kind: k, S: s})
	return err == api.OK
}
