package vm

import (
	"slices"
	"strings"

	"hindcast/api"
)

// all tells what is made of each.
func all[T, U any](l []T, one func(x T) U) []U {
	var made []U
	for _, x := range l {
		made = append(made, one(x))
	}
	return made
}

// codeAnew tells a code that shares no memory with another, as all that is told anew.
func codeAnew(c api.Code) api.Code {
	c.Strs = all(c.Strs, strings.Clone)
	c.Shapes = all(c.Shapes, shapeAnew)
	c.Units = all(c.Units, unitAnew)
	return c
}

func shapeAnew(s api.Shape) api.Shape {
	return api.Shape{Name: strings.Clone(s.Name), Fields: all(s.Fields, strings.Clone)}
}

func unitAnew(u api.Unit) api.Unit {
	u.Name = strings.Clone(u.Name)
	u.Ins = slices.Clone(u.Ins)
	u.Vars = all(u.Vars, func(v api.Var) api.Var {
		v.Name = strings.Clone(v.Name)
		return v
	})
	return u
}

func calledAnew(c api.Called) api.Called {
	c.Slots = all(c.Slots, valAnew)
	c.Stack = all(c.Stack, valAnew)
	return c
}

func valAnew(v api.Val) api.Val {
	v.S = strings.Clone(v.S)
	return v
}
