package heap

import (
	"strconv"

	"hindcast/api"
	"hindcast/lex"
)

const (
	showDeep  = 2 // objects within one another of which cells are shown
	showCells = 8 // cells of an object that are shown
	between   = ", "
	others    = "..." // what stands for all that is not shown
)

// Show tells what a value is like.
func (h *Heap) Show(v api.Val) string {
	if !h.isThere() || Check(v, len(h.objects)) != api.OK {
		return ""
	}
	b := h.write(nil, showDeep, v)
	if len(b) > api.MaxShow {
		b = append(b[:api.MaxShow-len(others)], others...)
	}
	return string(b)
}

// write puts values behind bytes; deep is how many objects within one another it may go into yet.
func (h *Heap) write(b []byte, deep int, pieces ...api.Val) []byte {
	for i, v := range pieces {
		if i > 0 {
			b = append(b, between...)
		}
		switch v.Kind {
		case api.VInt:
			b = strconv.AppendInt(b, int64(v.N), 10)
		case api.VBool:
			b = strconv.AppendBool(b, v.N == 1)
		case api.VStr:
			s, _ := lex.Text(api.Tok{Kind: api.TStr, S: v.S})
			b = append(b, s...)
		case api.VRef:
			b = h.writeObject(b, deep, h.objects[v.N])
		default:
			b = append(b, "none"...)
		}
	}
	return b
}

func (h *Heap) writeObject(b []byte, deep int, o object) []byte {
	if deep == 0 {
		return append(b, others...)
	}
	open, shut := "[", "]"
	if o.tag != "" {
		open, shut = o.tag+"(", ")"
	}
	b = append(b, open...)
	cells := h.cellsOf(o)
	b = h.write(b, deep-1, cells[:min(len(cells), showCells)]...)
	if len(cells) > showCells {
		b = append(b, between+others...)
	}
	return append(b, shut...)
}
