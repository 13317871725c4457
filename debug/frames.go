package debug

import (
	"hindcast/api"
	"hindcast/eval"
)

// frames tells those at the cursor, the outermost one first; none of a run that is done.
func (d *Debugger) frames() []api.Frame { return d.run.Look().Frames }

// depth tells how many frames there are; a run that is done is as deep as main was.
func (d *Debugger) depth() int { return max(1, len(d.frames())) }

// frame tells a frame from within, the innermost one by 0; where there is none, one without variables.
func (d *Debugger) frame(sel int) api.Frame {
	l := d.frames()
	if len(l) == 0 {
		return api.Frame{}
	}
	return l[len(l)-1-sel]
}

// maySelect tells whether a frame may be the one that is selected. The innermost one may also where there is none.
func (d *Debugger) maySelect(sel int) bool {
	return sel == 0 || 0 < sel && sel < len(d.frames())
}

// choose selects a frame, if it is there.
func (d *Debugger) choose(sel int) api.Errno {
	if sel < 0 || sel >= len(d.frames()) {
		return api.ErrNone
	}
	d.sel = sel
	return api.OK
}

// print tells what an expression's text comes to in the frame that is selected.
func (d *Debugger) print(s string) api.Reply {
	says, err := eval.Text(s, d.frame(d.sel).Vars, d.run.Heap(), d.shapes)
	return api.Reply{Err: err, Says: says}
}
