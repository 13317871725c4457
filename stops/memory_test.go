package stops

import (
	"slices"
	"strings"
	"testing"
	"unsafe"

	"hindcast/api"
	"hindcast/heap"
)

// withRoom tells a list with room behind its end, in which others stand.
func withRoom[T any](l []T, other T) []T {
	return slices.Concat(l, []T{other, other, other})[:len(l)]
}

// roomy tells the same spot, its lists with room.
func roomy(s spot) spot {
	s.vars, s.shapes = withRoom(s.vars, named("zz", ref(99))), withRoom(s.shapes, shape("P", "x", "zz"))
	for i, x := range s.shapes {
		s.shapes[i].Fields = withRoom(x.Fields, "zz")
	}
	return s
}

// whole tells all that a spot has, also behind its lists' ends.
func whole(s spot) string {
	w := told(s.vars[:cap(s.vars)]) + told(s.shapes[:cap(s.shapes)]) + told(s.heap.All()) + told(s.heap.Used())
	for _, x := range s.shapes {
		w += told(x.Fields[:cap(x.Fields)])
	}
	return w
}

// someComings tells a table with a stop for each of the comings' texts that it has room for, from one on.
func someComings(t *testing.T, from int) *Table {
	t.Helper()
	x := New()
	for n := range 8 {
		s := comings[(from+n)%len(comings)].text
		mustBreak(t, x, 3, s, 1+2*n)
		mustWatch(t, x, s, 2+2*n)
	}
	return x
}

// Nothing that is handed to Hits and Watched is changed, what stands behind the lists' ends is nothing to the answer, and the table is as it was.
func TestStill(t *testing.T) {
	for from := range comings {
		x := someComings(t, from)
		all := told(x.All())
		for n, plain := range spots() {
			p := roomy(plain)
			was := whole(p)
			for range 2 {
				expectList(t, "Hits", p.hits(x, 3), plain.hits(x, 3)...)
				expectList(t, "Watched", p.watched(x), plain.watched(x)...)
			}
			if whole(p) != was {
				t.Errorf("the spot %d: %s, not %s", n, whole(p), was)
			}
		}
		expect(t, "the table", told(x.All()), all)
		expect(t, "Next", x.Next(), 17)
	}
}

// A condition and a watch are asked of what a frame, a heap and shapes are by then: nothing of them is kept.
func TestNotKept(t *testing.T) {
	x := New()
	mustBreak(t, x, 1, `l[0] == 5 && p.s == "q"`, 1)
	mustWatch(t, x, "l", 2)
	p := here()
	expectList(t, "Hits", p.hits(x, 1), 1)
	texts := p.watched(x)
	p.heap.Set(ref(0), 0, num(9))
	expectList(t, "what was told", texts, "[5, 6]")
	expectList(t, "Hits of another heap", p.hits(x, 1))
	expectList(t, "Watched of another heap", p.watched(x), "[9, 6]")
	p.heap.Set(ref(0), 0, num(5))
	p.shapes[0].Fields[1] = "other"
	expectList(t, "Hits of other shapes", p.hits(x, 1))
	p.shapes[0].Fields[1] = "s"
	expectList(t, "Hits as at first", p.hits(x, 1), 1)
	clear(p.vars)
	expectList(t, "Watched without variables", p.watched(x), "?")
}

// What is handed to Load is not changed, be it taken or not, nor what stands behind its end; and it is not kept.
func TestLoadStill(t *testing.T) {
	behind := api.Stop{Id: 12, Line: 9}
	plain := []api.Stop{{Id: 2, Line: 1}, {Id: 5, Watch: "a"}, {Id: 6, Line: 1, Cond: "a > 1", Off: true}}
	bad := append(slices.Clone(plain), api.Stop{Id: 7})
	for _, l := range [][]api.Stop{withRoom(bad, behind), withRoom(row(17, 1), behind)} {
		was := slices.Clone(l[:cap(l)])
		x, _ := Load(l, 30)
		expect(t, "whether there is none", x == nil, true)
		expectList(t, "what was refused", l[:cap(l)], was...)
	}
	l := withRoom(plain, behind)
	was := slices.Clone(l[:cap(l)])
	x := mustLoad(t, l, 9)
	y := mustLoad(t, l, 9)
	mustBreak(t, x, 4, "", 9)
	mustWatch(t, x, "b", 10)
	x.Turn(2, false)
	x.Delete(5)
	expectList(t, "what was handed in", l[:cap(l)], was...)
	expectList(t, "another table of it", y.All(), plain...)
	all := told(x.All())
	clear(l[:cap(l)])
	expect(t, "All of a table whose list was written into", told(x.All()), all)
	expectList(t, "All of the other", y.All(), plain...)
	expect(t, "Turn of the other", y.Turn(2, true), api.OK)
}

// What is told is in memory of its own: writing into it, and behind its end, changes nothing in the table, nor in what was told ahead.
func TestOwnMemory(t *testing.T) {
	x := New()
	p := here()
	for n := range 5 {
		mustBreak(t, x, 1, "", 1+2*n)
		mustWatch(t, x, "a", 2+2*n)
	}
	x.Delete(10)
	for range 2 {
		all, again := x.All(), x.All()
		hits, hitsAgain := p.hits(x, 1), p.hits(x, 1)
		texts, textsAgain := p.watched(x), p.watched(x)
		spoil(all, api.Stop{Id: 77, Line: 7, Off: true})
		spoil(hits, 77)
		spoil(texts, "77")
		expect(t, "All ahead", told(again), told(x.All()))
		expect(t, "how many there are", len(again), 9)
		expectList(t, "Hits ahead", hitsAgain, 1, 3, 5, 7, 9)
		expectList(t, "Watched ahead", textsAgain, "2", "2", "2", "2")
		expectList(t, "Hits", p.hits(x, 1), 1, 3, 5, 7, 9)
		expectList(t, "Watched", p.watched(x), "2", "2", "2", "2")
	}
	mustBreak(t, x, 5, "", 11)
	expect(t, "the last one", x.All()[9], api.Stop{Id: 11, Line: 5})
}

// What was told stays, whatever is done to the table.
func TestToldStays(t *testing.T) {
	x := New()
	mustBreak(t, x, 1, "a > 1", 1)
	mustWatch(t, x, "a", 2)
	mustBreak(t, x, 1, "", 3)
	all, hits, texts := x.All(), here().hits(x, 1), here().watched(x)
	x.Turn(1, false)
	x.Delete(2)
	x.Delete(3)
	mustWatch(t, x, "b", 4)
	expectList(t, "All", all, api.Stop{Id: 1, Line: 1, Cond: "a > 1"}, api.Stop{Id: 2, Watch: "a"}, api.Stop{Id: 3, Line: 1})
	expectList(t, "Hits", hits, 1, 3)
	expectList(t, "Watched", texts, "2")
}

// spoil writes into a list, and into what room it has.
func spoil[T any](l []T, x T) {
	l = l[:cap(l)]
	for i := range l {
		l[i] = x
	}
}

// shares tells whether a text shares memory with another one.
func shares(x, s string) bool {
	if x == "" || s == "" {
		return false
	}
	p, from := uintptr(unsafe.Pointer(unsafe.StringData(x))), uintptr(unsafe.Pointer(unsafe.StringData(s)))
	return from <= p && p < from+uintptr(len(s))
}

// Texts that are told share no memory with those that were handed in, or told ahead; and those that are kept share none with either.
func TestTextsOfTheirOwn(t *testing.T) {
	cond, watch := strings.Repeat(" ", 50)+"a", strings.Repeat(" ", 50)+"s"
	value := strings.Repeat("v", 100)
	x := New()
	mustBreak(t, x, 1, cond, 1)
	mustWatch(t, x, watch, 2)
	p := spot{vars: []api.Bind{named("s", txt(value))}, heap: heap.New(0)}
	given := x.All()
	y := mustLoad(t, given, 3)
	for _, o := range []*Table{x, y} {
		one, two := o.All(), o.All()
		for i, kept := range o.stops {
			for _, other := range []string{cond, watch, given[i].Cond, given[i].Watch, two[i].Cond, two[i].Watch} {
				for _, own := range []string{one[i].Cond, one[i].Watch, kept.Cond, kept.Watch} {
					if shares(own, other) {
						t.Errorf("%q of the stop %d shares memory", own, kept.Id)
					}
				}
			}
		}
		first, second := p.watched(o), p.watched(o)
		expectList(t, "Watched", first, `"`+value+`"`)
		if shares(first[0], second[0]) || shares(first[0], value) {
			t.Error("what a watch comes to shares memory")
		}
	}
}
