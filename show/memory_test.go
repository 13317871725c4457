package show

import (
	"slices"
	"strings"
	"testing"
	"unsafe"

	"hindcast/api"
	"hindcast/heap"
)

// withRoom tells a list with room behind its end, in which others stand.
func withRoom[T any](l []T, other T) []T {
	return slices.Concat(l, []T{other, other, other})[:len(l)]
}

// roomy tells the same view, its lists with room.
func roomy(v api.View) api.View {
	v.Stops = withRoom(v.Stops, api.Stop{Id: 77, Watch: "zz"})
	v.Look.Frames = withRoom(v.Look.Frames, frame("zz", 77, named("zz", ref(99))))
	for i, f := range v.Look.Frames {
		v.Look.Frames[i].Vars = withRoom(f.Vars, named("zz", ref(99)))
	}
	return v
}

// whole tells all that a view and a heap have, also behind their lists' ends.
func whole(v api.View, h *heap.Heap) string {
	w := told(v) + told(v.Stops[:cap(v.Stops)]) + told(v.Look.Frames[:cap(v.Look.Frames)]) + told(h.All()) + told(h.Used())
	for _, f := range v.Look.Frames {
		w += told(f.Vars[:cap(f.Vars)])
	}
	return w
}

// views are some that are shown, and some that are refused.
func views() []api.View {
	wrong := roomy(full())
	wrong.Look.Frames[1].Vars[0].Value = ref(9)
	status := roomy(full())
	status.Look.Status = api.Faulty
	return []api.View{roomy(api.View{}), roomy(example()), roomy(full()), wrong, status}
}

// full has lines of each kind, some of which are cut, some with bytes that are not shown.
func full() api.View {
	long := strings.Repeat("long ", 60)
	return api.View{
		Look: api.Look{Pos: 9, Out: "a\tb\n" + long + "\n\nx\ny\nz", Frames: []api.Frame{
			frame("main", 3, named("p", ref(0)), named("s", txt("x\n"))), frame("f\x00", 5, named(long, num(1))), frame("g", 6)}},
		Sel:   1,
		Stops: []api.Stop{{Id: 1, Line: 3}, {Id: 2, Line: 4, Cond: long}, {Id: 3, Watch: "\xffw", Off: true}},
		Last:  api.Reply{Err: 4, N: 5, Says: long},
	}
}

func fullHeap() *heap.Heap { return objects(obj("P", num(1), ref(1)), obj("", txt("y"))) }

// Nothing that is handed in is changed, what stands behind the lists' ends is nothing to the answer; asking again tells the same (P16.5).
func TestStill(t *testing.T) {
	for n, v := range views() {
		h := fullHeap()
		was := whole(v, h)
		want, wantErr := Lines(v, h)
		bytes, _ := Bytes(v, h)
		for range 3 {
			l, err := Lines(v, h)
			b, errOfBytes := Bytes(v, h)
			if !slices.Equal(l, want) || err != wantErr || string(b) != string(bytes) || errOfBytes != wantErr {
				t.Errorf("the view %d: %q, then %q", n, want, l)
			}
			Lines(example(), heap.New(0))
			Lines(api.View{}, nil)
		}
		expect(t, "what was handed in", whole(v, h), was)
		expect(t, "whether it is shown", wantErr == api.OK, n < 3)
	}
}

// What is told is in memory of its own: writing into it, and behind its end, changes nothing that is told ahead or later.
func TestOwnMemory(t *testing.T) {
	v, h := full(), fullHeap()
	want, _ := model(v, h)
	for range 3 {
		l, _ := Lines(v, h)
		again, _ := Lines(v, h)
		b, _ := Bytes(v, h)
		bytesAgain, _ := Bytes(v, h)
		spoil(l, "spoilt")
		spoil(b, '!')
		expect(t, "the lines ahead", strings.Join(again, ";"), strings.Join(want, ";"))
		expect(t, "the bytes ahead", string(bytesAgain), strings.Join(want, "\n")+"\n")
		expectShown(t, "later", v, h, want...)
	}
	for f := range 12 {
		if s := Fault(api.Fault(f)); s != "" {
			expect(t, "a name", s, names[f-1])
		}
	}
}

// What was told stays, whatever is done to what was handed in.
func TestToldStays(t *testing.T) {
	v, h := full(), fullHeap()
	l, _ := Lines(v, h)
	b, _ := Bytes(v, h)
	was, bytes := strings.Clone(strings.Join(l, ";")), string(b)
	h.Set(ref(0), 0, num(7))
	clear(v.Look.Frames[0].Vars)
	clear(v.Look.Frames)
	clear(v.Stops)
	expect(t, "the lines", strings.Join(l, ";"), was)
	expect(t, "the bytes", string(b), bytes)
}

// spoil writes into a list, and into what room it has.
func spoil[T any](l []T, x T) {
	l = l[:cap(l)]
	for i := range l {
		l[i] = x
	}
}

// shares tells whether a text shares memory with another one.
func shares(x, s string) bool {
	if x == "" || s == "" {
		return false
	}
	p, from := uintptr(unsafe.Pointer(unsafe.StringData(x))), uintptr(unsafe.Pointer(unsafe.StringData(s)))
	return from <= p && p < from+uintptr(len(s)) || p <= from && from < p+uintptr(len(x))
}

// texts are all those that a view has.
func texts(v api.View) []string {
	l := []string{v.Look.Out, v.Last.Says}
	for _, f := range v.Look.Frames {
		l = append(l, f.Func)
		for _, b := range f.Vars {
			l = append(l, b.Name, b.Value.S)
		}
	}
	for _, s := range v.Stops {
		l = append(l, s.Cond, s.Watch)
	}
	return l
}

// Lines share no memory with what was handed in, with one another, or with those told ahead.
func TestTextsOfTheirOwn(t *testing.T) {
	for _, v := range []api.View{example(), full(), {}} {
		h := fullHeap()
		one, _ := Lines(v, h)
		two, _ := Lines(v, h)
		all := append(append(texts(v), one...), two...)
		from := len(all) - len(one) - len(two)
		for i := from; i < len(all); i++ {
			for k, s := range all {
				if k != i && shares(all[i], s) {
					t.Errorf("%q shares memory with %.50q", all[i], s)
				}
			}
		}
	}
}
