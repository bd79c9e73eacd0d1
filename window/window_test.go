package window

import (
	"math"
	"slices"
	"testing"

	"humpyard/api"
)

// w answers a Slot that waits to be done, d one that is Done.
func w(seq int) api.Slot { return api.Slot{Seq: seq} }
func d(seq int) api.Slot { return api.Slot{Seq: seq, Done: true} }

func win(s ...api.Slot) []api.Slot { return s }

// asked has what one call answered, or was to answer; seqs are none, or ok is false, where the call has none.
type asked struct {
	l    []api.Slot
	seqs []int
	ok   bool
}

func (a asked) same(b asked) bool {
	return slices.Equal(a.l, b.l) && slices.Equal(a.seqs, b.seqs) && a.ok == b.ok
}

// spoil writes over all memory of an answer, also behind its lists' ends.
func (a asked) spoil() {
	for k := range a.l[:cap(a.l)] {
		a.l[:cap(a.l)][k] = d(-99)
	}
	for k := range a.seqs[:cap(a.seqs)] {
		a.seqs[:cap(a.seqs)][k] = -99
	}
}

func push(room, seq int) func([]api.Slot) asked {
	return func(l []api.Slot) asked {
		x, ok := Push(l, room, seq)
		return asked{l: x, ok: ok}
	}
}

func done(seq int) func([]api.Slot) asked {
	return func(l []api.Slot) asked {
		x, ok := Done(l, seq)
		return asked{l: x, ok: ok}
	}
}

func pop(most int) func([]api.Slot) asked {
	return func(l []api.Slot) asked {
		x, seqs := Pop(l, most)
		return asked{l: x, seqs: seqs}
	}
}

func cut(seq int) func([]api.Slot) asked {
	return func(l []api.Slot) asked {
		x, seqs := Cut(l, seq)
		return asked{l: x, seqs: seqs}
	}
}

// behindEnd lists what may lie behind a window's end: Slots that would count if they were read.
func behindEnd() [][]api.Slot {
	return [][]api.Slot{nil, {d(4), w(math.MaxInt)}, {w(4), d(math.MinInt)}}
}

// ask makes a call twice with the window as it stands, and twice with each kind of room behind its end: the answers are as is wanted, share no memory with what was handed in nor with each other, and that is as it was.
func ask(t *testing.T, name string, l []api.Slot, call func([]api.Slot) asked, want asked) {
	t.Helper()
	lists, alls := [][]api.Slot{l}, [][]api.Slot{l}
	for _, b := range behindEnd() {
		all := slices.Concat(l, b)
		lists, alls = append(lists, all[:len(l)]), append(alls, all)
	}
	var got []asked
	var was [][]api.Slot
	for n, x := range lists {
		was = append(was, slices.Clone(alls[n]))
		got = append(got, call(x), call(x))
	}
	for n, g := range got {
		if !g.same(want) {
			t.Errorf("%s, call %d of %v: %v, not %v (or another answer's memory)", name, n, l, g, want)
		}
		g.spoil()
	}
	for n, all := range alls {
		if !slices.Equal(all, was[n]) {
			t.Errorf("%s: what was handed in is not as it was: %v, not %v", name, all, was[n])
		}
	}
}

// TestPush: H1: one more Slot, the last one, of that Seq, not Done, and true.
func TestPush(t *testing.T) {
	ask(t, "nil", nil, push(1, 7), asked{l: win(w(7)), ok: true})
	ask(t, "empty", win(), push(1, 7), asked{l: win(w(7)), ok: true})
	ask(t, "Seq 0", nil, push(1, 0), asked{l: win(w(0)), ok: true})
	ask(t, "below 0", nil, push(2, -3), asked{l: win(w(-3)), ok: true})
	ask(t, "all below 0", win(w(-5), d(-4)), push(3, -3), asked{l: win(w(-5), d(-4), w(-3)), ok: true})
	ask(t, "above all by 1", win(d(3), w(5)), push(3, 6), asked{l: win(d(3), w(5), w(6)), ok: true})
	ask(t, "above all by far", win(d(3), w(5)), push(3, 900), asked{l: win(d(3), w(5), w(900)), ok: true})
	ask(t, "all Done", win(d(3), d(5)), push(3, 6), asked{l: win(d(3), d(5), w(6)), ok: true})
	ask(t, "falling", win(w(9), d(8), w(2)), push(4, 10), asked{l: win(w(9), d(8), w(2), w(10)), ok: true})
	ask(t, "the same twice", win(w(4), w(4)), push(3, 5), asked{l: win(w(4), w(4), w(5)), ok: true})
	ask(t, "greater than MaxWindow", make([]api.Slot, api.MaxWindow), push(api.MaxWindow+1, 1), asked{l: append(make([]api.Slot, api.MaxWindow), w(1)), ok: true})
}

// TestPushRoom: H1: there must be fewer than room, not as many.
func TestPushRoom(t *testing.T) {
	l := win(d(3), w(5), w(6))
	more := asked{l: win(d(3), w(5), w(6), w(8)), ok: true}
	for _, room := range []int{math.MinInt, -4, -1, 0, 1, 2, 3} {
		ask(t, "no room", l, push(room, 8), asked{})
	}
	for _, room := range []int{4, 5, api.MaxWindow, math.MaxInt} {
		ask(t, "room", l, push(room, 8), more)
	}
	for _, none := range [][]api.Slot{nil, {}} {
		for _, room := range []int{math.MinInt, -1, 0} {
			ask(t, "no room for one", none, push(room, 8), asked{})
		}
		for _, room := range []int{1, 2, math.MaxInt} {
			ask(t, "room for one", none, push(room, 8), asked{l: win(w(8)), ok: true})
		}
	}
	ask(t, "one, room for one", win(d(3)), push(1, 8), asked{})
	ask(t, "one, room for two", win(d(3)), push(2, 8), asked{l: win(d(3), w(8)), ok: true})
}

// TestPushSeq: H1: all Seqs must be below seq, wherever they stand, Done or not.
func TestPushSeq(t *testing.T) {
	for _, seq := range []int{math.MinInt, 2, 3, 4, 5, 6} {
		ask(t, "rising", win(d(3), w(5), w(6)), push(9, seq), asked{})
		ask(t, "rising, all Done", win(d(3), d(5), d(6)), push(9, seq), asked{})
		ask(t, "the greatest one first", win(w(6), w(3), w(5)), push(9, seq), asked{})
		ask(t, "the greatest one between", win(w(3), d(6), w(5)), push(9, seq), asked{})
		ask(t, "alone", win(w(6)), push(9, seq), asked{})
	}
	for _, l := range [][]api.Slot{{w(6), w(3), w(5)}, {w(3), d(6), w(5)}, {d(3), w(5), w(6)}} {
		ask(t, "above all", l, push(9, 7), asked{l: slices.Concat(l, win(w(7))), ok: true})
	}
	ask(t, "neither room nor above all", win(w(6)), push(1, 6), asked{})
}

// TestPushEnds: H1: the least and the greatest number are Seqs like all others.
func TestPushEnds(t *testing.T) {
	least, most := math.MinInt, math.MaxInt
	ask(t, "the least, empty", nil, push(1, least), asked{l: win(w(least)), ok: true})
	ask(t, "the greatest, empty", nil, push(1, most), asked{l: win(w(most)), ok: true})
	ask(t, "the least twice", win(w(least)), push(9, least), asked{})
	ask(t, "the greatest twice", win(w(most)), push(9, most), asked{})
	ask(t, "the least and one more", win(w(least)), push(9, least+1), asked{l: win(w(least), w(least+1)), ok: true})
	ask(t, "the greatest but one", win(w(most-1)), push(9, most), asked{l: win(w(most-1), w(most)), ok: true})
	ask(t, "from end to end", win(w(least)), push(9, most), asked{l: win(w(least), w(most)), ok: true})
	ask(t, "from end to end, back", win(w(most)), push(9, least), asked{})
	ask(t, "the least of some", win(w(0)), push(9, least), asked{})
	ask(t, "the greatest of some", win(w(0)), push(most, most), asked{l: win(w(0), w(most)), ok: true})
}

// TestDone: H1: the first Slot of that Seq that is not Done is, and no other is changed.
func TestDone(t *testing.T) {
	l := win(w(3), w(5), d(6), w(8))
	ask(t, "first", l, done(3), asked{l: win(d(3), w(5), d(6), w(8)), ok: true})
	ask(t, "between", l, done(5), asked{l: win(w(3), d(5), d(6), w(8)), ok: true})
	ask(t, "last", l, done(8), asked{l: win(w(3), w(5), d(6), d(8)), ok: true})
	ask(t, "alone", win(w(0)), done(0), asked{l: win(d(0)), ok: true})
	ask(t, "falling", win(w(9), w(4), w(-2)), done(-2), asked{l: win(w(9), w(4), d(-2)), ok: true})
	ask(t, "twice", win(w(1), w(4), w(2), w(4)), done(4), asked{l: win(w(1), d(4), w(2), w(4)), ok: true})
	ask(t, "twice, the first is Done", win(w(1), d(4), w(2), w(4)), done(4), asked{l: win(w(1), d(4), w(2), d(4)), ok: true})
	ask(t, "twice, the second is Done", win(w(4), w(2), d(4)), done(4), asked{l: win(d(4), w(2), d(4)), ok: true})
	ask(t, "thrice, the first is Done", win(d(4), w(4), w(4)), done(4), asked{l: win(d(4), d(4), w(4)), ok: true})
	ask(t, "the least", win(w(0), w(math.MinInt)), done(math.MinInt), asked{l: win(w(0), d(math.MinInt)), ok: true})
	ask(t, "the greatest", win(w(0), w(math.MaxInt)), done(math.MaxInt), asked{l: win(w(0), d(math.MaxInt)), ok: true})
}

// TestDoneWrong: H1: none and false, where none of that Seq is not Done.
func TestDoneWrong(t *testing.T) {
	for _, seq := range []int{math.MinInt, -1, 0, 4, math.MaxInt} {
		ask(t, "nil", nil, done(seq), asked{})
		ask(t, "empty", win(), done(seq), asked{})
		ask(t, "others", win(w(3), w(5), w(7)), done(seq), asked{})
		ask(t, "Done already", win(w(3), d(seq), w(5)), done(seq), asked{})
		ask(t, "Done already, alone", win(d(seq)), done(seq), asked{})
		ask(t, "Done already, twice", win(d(seq), w(5), d(seq)), done(seq), asked{})
	}
}

// TestPop: H1: the first ones that are Done go, up to the first that is not; their Seqs in order.
func TestPop(t *testing.T) {
	l := win(d(3), d(5), d(6), w(8), d(9))
	want := map[int]asked{
		math.MinInt: {l: l},
		-1:          {l: l},
		0:           {l: l},
		1:           {l: win(d(5), d(6), w(8), d(9)), seqs: []int{3}},
		2:           {l: win(d(6), w(8), d(9)), seqs: []int{3, 5}},
		3:           {l: win(w(8), d(9)), seqs: []int{3, 5, 6}},
		4:           {l: win(w(8), d(9)), seqs: []int{3, 5, 6}},
		5:           {l: win(w(8), d(9)), seqs: []int{3, 5, 6}},
		math.MaxInt: {l: win(w(8), d(9)), seqs: []int{3, 5, 6}},
	}
	for most, x := range want {
		ask(t, "three ahead", l, pop(most), x)
	}
	ask(t, "falling", win(d(9), d(-4), d(7), w(1)), pop(9), asked{l: win(w(1)), seqs: []int{9, -4, 7}})
	ask(t, "the same twice", win(d(4), d(4), w(4)), pop(9), asked{l: win(w(4)), seqs: []int{4, 4}})
	ask(t, "one alone", win(d(0)), pop(1), asked{seqs: []int{0}})
	ask(t, "ends", win(d(math.MaxInt), d(math.MinInt)), pop(2), asked{seqs: []int{math.MaxInt, math.MinInt}})
}

// TestPopNone: H1: nothing goes where nothing is Done ahead, or there is nothing.
func TestPopNone(t *testing.T) {
	for _, most := range []int{math.MinInt, -1, 0, 1, 2, 3, 4, math.MaxInt} {
		ask(t, "nil", nil, pop(most), asked{})
		ask(t, "empty", win(), pop(most), asked{})
		for _, l := range [][]api.Slot{{w(3)}, {w(3), w(5)}, {w(3), d(5)}, {w(3), d(5), d(6)}, {w(3), d(5), w(6)}} {
			ask(t, "none ahead", l, pop(most), asked{l: l})
		}
	}
}

// TestPopAll: H1: all that are Done go, but most at most.
func TestPopAll(t *testing.T) {
	l := win(d(3), d(5), d(6))
	ask(t, "below 0", l, pop(-1), asked{l: l})
	ask(t, "0", l, pop(0), asked{l: l})
	ask(t, "1", l, pop(1), asked{l: win(d(5), d(6)), seqs: []int{3}})
	ask(t, "one fewer", l, pop(2), asked{l: win(d(6)), seqs: []int{3, 5}})
	for _, most := range []int{3, 4, math.MaxInt} {
		ask(t, "all", l, pop(most), asked{seqs: []int{3, 5, 6}})
	}
}

// TestCut: H1: all whose Seq is seq or above it go, Done or not; their Seqs, the last one first.
func TestCut(t *testing.T) {
	l := win(d(3), w(5), d(6), w(8))
	want := map[int]asked{
		math.MinInt: {seqs: []int{8, 6, 5, 3}},
		2:           {seqs: []int{8, 6, 5, 3}},
		3:           {seqs: []int{8, 6, 5, 3}},
		4:           {l: win(d(3)), seqs: []int{8, 6, 5}},
		5:           {l: win(d(3)), seqs: []int{8, 6, 5}},
		6:           {l: win(d(3), w(5)), seqs: []int{8, 6}},
		7:           {l: win(d(3), w(5), d(6)), seqs: []int{8}},
		8:           {l: win(d(3), w(5), d(6)), seqs: []int{8}},
		9:           {l: l},
		math.MaxInt: {l: l},
	}
	for seq, x := range want {
		ask(t, "rising", l, cut(seq), x)
	}
	ask(t, "alone", win(d(0)), cut(0), asked{seqs: []int{0}})
	ask(t, "alone, stays", win(d(0)), cut(1), asked{l: win(d(0))})
	ask(t, "ends", win(w(math.MinInt), w(math.MaxInt)), cut(math.MaxInt), asked{l: win(w(math.MinInt)), seqs: []int{math.MaxInt}})
	ask(t, "the least", win(w(math.MinInt), w(math.MaxInt)), cut(math.MinInt), asked{seqs: []int{math.MaxInt, math.MinInt}})
}

// TestCutMixed: H1: where Seqs do not rise, what stays keeps its order, and what goes is told from the list's end on, not by its Seq.
func TestCutMixed(t *testing.T) {
	l := win(w(7), d(2), w(9), w(1), d(5), w(3), w(5))
	ask(t, "5", l, cut(5), asked{l: win(d(2), w(1), w(3)), seqs: []int{5, 5, 9, 7}})
	ask(t, "8", l, cut(8), asked{l: win(w(7), d(2), w(1), d(5), w(3), w(5)), seqs: []int{9}})
	ask(t, "2", l, cut(2), asked{l: win(w(1)), seqs: []int{5, 3, 5, 9, 2, 7}})
	ask(t, "all", l, cut(-1), asked{seqs: []int{5, 3, 5, 1, 9, 2, 7}})
	ask(t, "none", l, cut(10), asked{l: l})
	ask(t, "falling", win(w(9), w(8), d(7)), cut(8), asked{l: win(d(7)), seqs: []int{8, 9}})
}

// TestCutNone: H1: of nothing, nothing goes.
func TestCutNone(t *testing.T) {
	for _, seq := range []int{math.MinInt, -1, 0, 1, math.MaxInt} {
		ask(t, "nil", nil, cut(seq), asked{})
		ask(t, "empty", win(), cut(seq), asked{})
	}
}

// each calls with every window of at most so many Slots, of Seqs 1 to 3, Done or not.
func each(most int, call func([]api.Slot)) {
	var grow func(l []api.Slot)
	grow = func(l []api.Slot) {
		call(l)
		if len(l) == most {
			return
		}
		for seq := 1; seq <= 3; seq++ {
			grow(slices.Concat(l, win(w(seq))))
			grow(slices.Concat(l, win(d(seq))))
		}
	}
	grow(nil)
}

// TestEachSmall: H1: of every small window the answers are as the words say, told here the other way round: by what is lacking, and from the end on.
func TestEachSmall(t *testing.T) {
	each(4, func(l []api.Slot) {
		for n := -1; n <= 5; n++ {
			ask(t, "Push", l, push(4, n), wantPush(l, 4, n))
			ask(t, "Push, room", l, push(n, 4), wantPush(l, n, 4))
			ask(t, "Done", l, done(n), wantDone(l, n))
			ask(t, "Pop", l, pop(n), wantPop(l, n))
			ask(t, "Cut", l, cut(n), wantCut(l, n))
		}
	})
}

func wantPush(l []api.Slot, room, seq int) asked {
	above := 0
	for _, s := range l {
		if s.Seq < seq {
			above++
		}
	}
	if above == len(l) && room > len(l) {
		return asked{l: slices.Concat(l, win(w(seq))), ok: true}
	}
	return asked{}
}

func wantDone(l []api.Slot, seq int) asked {
	var out asked
	for n := len(l) - 1; n >= 0; n-- {
		if l[n] == w(seq) {
			out = asked{l: slices.Concat(l[:n], win(d(seq)), l[n+1:]), ok: true}
		}
	}
	return out
}

func wantPop(l []api.Slot, most int) asked {
	if most <= 0 || len(l) == 0 || !l[0].Done {
		return asked{l: l}
	}
	rest := wantPop(l[1:], most-1)
	return asked{l: rest.l, seqs: slices.Concat([]int{l[0].Seq}, rest.seqs)}
}

func wantCut(l []api.Slot, seq int) asked {
	var out asked
	for _, s := range slices.Backward(l) {
		if s.Seq < seq {
			out.l = slices.Insert(out.l, 0, s)
		} else {
			out.seqs = append(out.seqs, s.Seq)
		}
	}
	return out
}

// TestUnderWay: H1: what is taken in, done, popped and cut leaves each number once: popped in order, cut, or still there.
func TestUnderWay(t *testing.T) {
	var l []api.Slot
	var out []int
	seq, gone := 0, 0
	seed := uint32(8)
	for range 4000 {
		seed = seed*1664525 + 1013904223
		pick := int(seed >> 8 % 64)
		switch seed >> 20 % 8 {
		case 0, 1, 2:
			x, ok := Push(l, api.MaxWindow, seq)
			if ok != (len(l) < api.MaxWindow) {
				t.Fatal(l, ok)
			}
			if ok {
				l, seq = x, seq+1
			}
		case 3, 4, 5:
			if len(l) == 0 {
				continue
			}
			at := pick % len(l)
			x, ok := Done(l, l[at].Seq)
			if ok == l[at].Done {
				t.Fatal(l, at, ok)
			}
			if ok {
				l = x
			}
		case 6:
			x, seqs := Pop(l, 1+pick%api.MaxWide)
			l, out = x, append(out, seqs...)
		default:
			x, seqs := Cut(l, seq-pick%4)
			l, gone = x, gone+len(seqs)
		}
		if len(l)+len(out)+gone != seq {
			t.Fatalf("%d are there, %d popped, %d cut, of %d", len(l), len(out), gone, seq)
		}
	}
	if len(out) < 100 || gone < 100 || !slices.IsSorted(out) {
		t.Error(len(out), gone, out)
	}
}
