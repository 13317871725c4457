package travel

import (
	"slices"
	"strings"

	"hindcast/api"
)

// codeAnew tells a code that shares no memory with another: a run needs it for as long as it is gone through.
func codeAnew(c api.Code) api.Code {
	c.Strs = all(c.Strs, strings.Clone)
	c.Shapes = all(c.Shapes, func(s api.Shape) api.Shape {
		return api.Shape{Name: strings.Clone(s.Name), Fields: all(s.Fields, strings.Clone)}
	})
	c.Units = all(c.Units, func(u api.Unit) api.Unit {
		u.Name = strings.Clone(u.Name)
		u.Ins = slices.Clone(u.Ins)
		u.Vars = all(u.Vars, varAnew)
		return u
	})
	return c
}

func varAnew(v api.Var) api.Var {
	v.Name = strings.Clone(v.Name)
	return v
}

// all tells what is made of each.
func all[T any](l []T, one func(x T) T) []T {
	var made []T
	for _, x := range l {
		made = append(made, one(x))
	}
	return made
}
