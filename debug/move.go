package debug

import (
	"slices"

	"hindcast/api"
)

// move moves the cursor. To find where a move leads the run goes to and fro; it is sent back where it stood, if the move is refused.
func (d *Debugger) move(c api.Cmd) api.Errno {
	stood := d.run.At()
	to, err := d.leads(c)
	if err != api.OK {
		d.run.Seek(stood)
		return err
	}
	d.run.Seek(to)
	d.sel = 0
	return api.OK
}

// leads tells where a move leads.
func (d *Debugger) leads(c api.Cmd) (int, api.Errno) {
	if !d.mayGoOn(c) {
		return 0, api.ErrEnd
	}
	at := d.run.At()
	switch c.Kind {
	case api.CmdStep:
		return at + 1, api.OK
	case api.CmdNext, api.CmdFinish, api.CmdContinue:
		return d.forth(d.lookedFor(c.Kind)), api.OK
	case api.CmdBackStep:
		return at - 1, api.OK
	case api.CmdBackNext, api.CmdBackFinish, api.CmdBackContinue:
		return d.back(d.lookedFor(c.Kind)), api.OK
	}
	return d.position(c.N)
}

// mayGoOn tells whether there is a position where a move begins to look.
func (d *Debugger) mayGoOn(c api.Cmd) bool {
	switch c.Kind {
	case api.CmdStep, api.CmdNext, api.CmdFinish, api.CmdContinue:
		return d.run.Look().Status == api.Running
	case api.CmdGoto:
		return true
	}
	return d.run.At() > 0
}

// position tells whether there is a position. The run goes no further than there to know it.
func (d *Debugger) position(pos int) (int, api.Errno) {
	switch {
	case pos < 0:
		return 0, api.ErrArg
	case d.run.Seek(pos) != pos:
		return 0, api.ErrEnd
	}
	return pos, api.OK
}

// forth tells the least position above the cursor that is such a one; the last position, if there is none.
func (d *Debugger) forth(isSuch func() bool) int {
	isSuch()
	at := d.run.At() + 1
	for d.run.Seek(at) == at && !isSuch() {
		at++
	}
	return d.run.At()
}

// back tells the greatest position below the cursor that is such a one; 0, if there is none. The run goes from each position that is kept up to the next one, those nearest to the cursor first: so it comes to few positions, and to none of them again and again.
func (d *Debugger) back(isSuch func() bool) int {
	to := d.run.At() - 1
	for to > 0 {
		from := d.keptBelow(to)
		if found := d.greatest(from, to, isSuch); found > from {
			return found
		}
		to = from
	}
	return 0
}

// greatest tells the greatest position above one, and up to another, that is such a one; the first of the two, if there is none.
func (d *Debugger) greatest(from, to int, isSuch func() bool) int {
	found := d.run.Seek(from)
	isSuch()
	for at := from + 1; at <= to; at++ {
		d.run.Seek(at)
		if isSuch() {
			found = at
		}
	}
	return found
}

// keptBelow tells the greatest position that is kept below one above 0; 0 always is.
func (d *Debugger) keptBelow(pos int) int {
	kept := d.run.Kept()
	at, _ := slices.BinarySearch(kept, pos)
	return kept[at-1]
}

// lookedFor tells what is asked at positions one behind the other, whether each is such a one as a move looks for. The answer at the first of them counts for nothing: it is asked so that the next one may be held against it.
func (d *Debugger) lookedFor(k api.CmdKind) func() bool {
	depth := d.depth()
	switch k {
	case api.CmdNext, api.CmdBackNext:
		return func() bool { return d.depth() <= depth }
	case api.CmdFinish, api.CmdBackFinish:
		return func() bool { return d.depth() < depth }
	}
	return d.stopping()
}

// stopping tells what is asked at positions one behind the other, whether each stops.
func (d *Debugger) stopping() func() bool {
	all := d.stops.All()
	var ahead watched
	return func() bool {
		f := d.frame(0)
		mayTell := func(s api.Stop) bool { return !s.Off && (s.Watch != "" || s.Line == f.Line) }
		if !slices.ContainsFunc(all, mayTell) {
			return false // without asking for the heap, which is a copy
		}
		h := d.run.Heap()
		here := newWatched(d.stops.Watched(f, h, d.shapes))
		isOther := here != ahead
		ahead = here
		return isOther || len(d.stops.Hits(f, h, d.shapes)) > 0
	}
}

// watched is what the watches that are on come to at a position: a list by value, so that it is held against that of another position as a whole.
type watched struct {
	count int
	texts [api.MaxStops]string
}

func newWatched(l []string) watched {
	var w watched
	w.count = copy(w.texts[:], l)
	return w
}
