package heap

import (
	"fmt"
	"math"
	"strings"
	"testing"

	"hindcast/api"
)

// P6.5

func expectShown(t *testing.T, h *Heap, v api.Val, want string) {
	t.Helper()
	expect(t, fmt.Sprintf("Show(%v)", v), h.Show(v), want)
}

func TestShowPlain(t *testing.T) {
	for _, h := range []*Heap{New(-1), New(9), mustLoad(t, 9, obj("P", num(1)))} {
		for _, c := range []struct {
			v    api.Val
			want string
		}{
			{api.Val{}, "none"},
			{num(0), "0"}, {num(7), "7"}, {num(10), "10"}, {num(-1), "-1"}, {num(-120), "-120"},
			{num(math.MaxInt), "9223372036854775807"}, {num(math.MinInt), "-9223372036854775808"},
			{truth(0), "false"}, {truth(1), "true"},
			{txt(""), `""`}, {txt("a b"), `"a b"`}, {txt("none"), `"none"`}, {txt("..."), `"..."`}, {txt("~!"), `"~!"`},
			{txt("a\nb"), `"a\nb"`}, {txt("\\"), `"\\"`}, {txt("\""), `"\""`}, {txt("\\n"), `"\\n"`}, {txt("\n\\\""), `"\n\\\""`}, {txt("'"), `"'"`},
		} {
			expectShown(t, h, c.v, c.want)
		}
	}
}

func TestShowNotRight(t *testing.T) {
	h := mustLoad(t, 20, obj("P", num(1)), obj("", ref(1)))
	for _, v := range append(wrongValues(), ref(2), ref(3), ref(math.MaxInt)) {
		expectShown(t, h, v, "")
	}
	expectShown(t, New(9), ref(0), "")
	expectShown(t, h, ref(0), "P(1)")
	expectShown(t, h, api.Val{Kind: api.VRef, S: "x"}, "")
}

func TestShowExample(t *testing.T) {
	h := New(9)
	a := mustAlloc(t, h, "", num(1), num(2))
	b := mustAlloc(t, h, "P", a, truth(1))
	expectShown(t, h, b, "P([1, 2], true)")
	mustSet(t, h, a, 1, b)
	expectShown(t, h, b, "P([1, ...], true)")
	expectShown(t, h, a, "[1, P(..., true)]")
}

func TestShowCells(t *testing.T) {
	const eight = "0, 1, 2, 3, 4, 5, 6, 7"
	for n, inner := range []string{"", "0", "0, 1", "0, 1, 2", "0, 1, 2, 3", "0, 1, 2, 3, 4", "0, 1, 2, 3, 4, 5", "0, 1, 2, 3, 4, 5, 6", eight, eight + ", ...", eight + ", ...", eight + ", ..."} {
		h := mustLoad(t, 99, obj("", nums(n)...), obj("Rec", nums(n)...), obj("", ref(0), ref(1)), obj("Q", ref(1), num(-3), ref(0)))
		expectShown(t, h, ref(0), "["+inner+"]")
		expectShown(t, h, ref(1), "Rec("+inner+")")
		expectShown(t, h, ref(2), "[["+inner+"], Rec("+inner+")]")
		expectShown(t, h, ref(3), "Q(Rec("+inner+"), -3, ["+inner+"])")
	}
	h := New(api.MaxHeap)
	expectShown(t, h, mustAlloc(t, h, "", nums(api.MaxHeap-1)...), "["+eight+", ...]")
}

// What is not shown of an object is nothing to how long it is, whatever it is.
func TestShowOthers(t *testing.T) {
	nine := []api.Val{txt(""), txt("a"), truth(0), truth(1), num(1), num(2), num(3), num(4), num(5)}
	for _, last := range []api.Val{num(5), truth(1), txt(""), txt(strings.Repeat("x", 255)), ref(0), ref(1)} {
		nine[8] = last
		h := mustLoad(t, 99, obj("N", nine...), obj("", ref(0)))
		expectShown(t, h, ref(0), `N("", "a", false, true, 1, 2, 3, 4, ...)`)
		expectShown(t, h, ref(1), `[N("", "a", false, true, 1, 2, 3, 4, ...)]`)
	}
}

func TestShowDeep(t *testing.T) {
	deepest := []api.Obj{obj(""), obj("P"), obj("", nums(1)...), obj("P", nums(20)...), obj("", ref(0)), obj("P", txt(strings.Repeat("x", 255)))}
	for _, o := range deepest {
		h := mustLoad(t, 99, o, obj("", ref(0)), obj("In", num(1), ref(0), truth(1)), obj("", ref(1), ref(2)), obj("Out", ref(2), txt("x"), ref(1)))
		expectShown(t, h, ref(3), "[[...], In(1, ..., true)]")
		expectShown(t, h, ref(4), `Out(In(1, ..., true), "x", [...])`)
	}
	// Objects that stand beside one another are not within one another.
	h := mustLoad(t, 99, obj("", num(1)), obj("", ref(0), ref(0), ref(0)), obj("", ref(0), ref(1), ref(0)))
	expectShown(t, h, ref(1), "[[1], [1], [1]]")
	expectShown(t, h, ref(2), "[[1], [..., ..., ...], [1]]")
}

func TestShowWithinItself(t *testing.T) {
	h := mustLoad(t, 99, obj("", ref(0)), obj("P", ref(1), num(2)), obj("", ref(3)), obj("Q", ref(2)))
	expectShown(t, h, ref(0), "[[...]]")
	expectShown(t, h, ref(1), "P(P(..., 2), 2)")
	expectShown(t, h, ref(2), "[Q(...)]")
	expectShown(t, h, ref(3), "Q([...])")
	var nine []api.Val
	for range 9 {
		nine = append(nine, ref(0))
	}
	const all = "..., ..., ..., ..., ..., ..., ..., ..., ..."
	h = mustLoad(t, 99, obj("", nine...), obj("", ref(0)))
	expectShown(t, h, ref(1), "[["+all+"]]")
	expectShown(t, h, ref(0), ("[" + strings.Repeat("["+all+"], ", 8))[:197]+"...")
}

func TestShowLongTexts(t *testing.T) {
	for n := 190; n <= 255; n++ {
		s := strings.Repeat("y", n)
		want := `"` + s + `"`
		if n > 198 {
			want = `"` + strings.Repeat("y", 196) + "..."
		}
		expectShown(t, New(0), txt(s), want)
	}
	// What is counted is how it is written, and that may be cut anywhere.
	expectShown(t, New(0), txt(strings.Repeat("\n", 99)), `"`+strings.Repeat(`\n`, 99)+`"`)
	expectShown(t, New(0), txt(strings.Repeat("\n", 100)), `"`+strings.Repeat(`\n`, 98)+"...")
	expectShown(t, New(0), txt("a"+strings.Repeat("\\", 255-1)), `"a`+strings.Repeat(`\\`, 97)+`\...`)
	expectShown(t, New(0), txt(strings.Repeat("\"", 255)), `"`+strings.Repeat(`\"`, 98)+"...")
}

func TestShowLongObjects(t *testing.T) {
	for _, c := range []struct{ tag, open, shut string }{{"", "[", "]"}, {"P", "P(", ")"}, {strings.Repeat("w", 20), strings.Repeat("w", 20) + "(", ")"}} {
		for _, size := range []int{198, 199, 200, 201, 202, 203, 220} {
			text := strings.Repeat("y", size-len(c.open+c.shut+`12, "", `+"true"))
			whole := c.open + `12, "` + text + `", true` + c.shut
			expect(t, "bytes of the whole", len(whole), size)
			want := whole
			if size > 200 {
				want = whole[:197] + "..."
			}
			h := mustLoad(t, 99, obj(c.tag, num(12), txt(text), truth(1)))
			expectShown(t, h, ref(0), want)
		}
	}
}

// What stands within an object is not cut for itself: only the whole is.
func TestShowLongWithin(t *testing.T) {
	long := txt(strings.Repeat("y", 255))
	h := mustLoad(t, 99, obj("", long), obj("P", num(1), ref(0), long), obj("", nums(8)...), obj("", ref(2), ref(2), ref(2), ref(2), ref(2), ref(2), ref(2), ref(2)))
	expectShown(t, h, ref(0), `["`+strings.Repeat("y", 195)+"...")
	expectShown(t, h, ref(1), `P(1, ["`+strings.Repeat("y", 190)+"...")
	const row = "[0, 1, 2, 3, 4, 5, 6, 7], "
	expectShown(t, h, ref(3), ("[" + strings.Repeat(row, 8))[:197]+"...")
	h = mustLoad(t, 99, h.All()[2], obj("", ref(0), ref(0), ref(0), ref(0), ref(0), ref(0), ref(0), num(123456789012345)))
	expectShown(t, h, ref(1), "["+strings.Repeat(row, 7)+"123456789012345]")
	h = mustLoad(t, 99, h.All()[0], obj("", ref(0), ref(0), ref(0), ref(0), ref(0), ref(0), ref(0), num(1234567890123456)))
	expectShown(t, h, ref(1), "["+strings.Repeat(row, 7)+"1234567890123456]")
	h = mustLoad(t, 99, h.All()[0], obj("", ref(0), ref(0), ref(0), ref(0), ref(0), ref(0), ref(0), num(12345678901234567)))
	expectShown(t, h, ref(1), "["+strings.Repeat(row, 7)+"12345678901234...")
}

func TestShowChangesNothing(t *testing.T) {
	h, l := someHeap(t)
	for n := range 5 {
		h.Show(ref(n))
	}
	expectObjects(t, "behind Show", h, 20, l...)
}
