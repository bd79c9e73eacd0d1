package drive

import (
	"fmt"
	"slices"
	"strings"
	"testing"

	"humpyard/api"
)

// TestFirst: K1: the memory is empty, the hart all 0, the core is that of Window 8, Phys 64, Wide 2, and there are no choices.
func TestFirst(t *testing.T) {
	plays(t, "words\nmodel 0\nmodel 1\nrun 0\nrun 100", "ok 0\n0 0 0 0\n1 2 1 0\n0 0 0 0\n1 2 1 0\n")
	dump := registers(t)
	plays(t, lines(line("words", dump...), "model 2000"), lines(fmt.Sprintf("ok %d", 4*len(dump)), toldRegisters([32]uint32{})))
	words := counter(t)
	for _, cycles := range []int{0, 1, 2, 3, 10, 50, 100, 500, 1000} {
		plays(t, lines(line("words", words...), line("run", cycles)), lines("ok 64", ranBy(t, first, words, nil, cycles)))
	}
}

// TestLowestFirst: K2: each word is four bytes, the lowest one first.
func TestLowestFirst(t *testing.T) {
	program := reader(t, api.LBU)
	script := lines(line("words", program...), "words 67305985 4294967295 0 16909060", "set 17 1", "set 5 16", "model 100")
	plays(t, script, lines("ok 16", "ok 32", "ok", "ok", "65 2 3 0 1 2 3 4 255 255 255 255 0 0 0 0 4 3 2 1"))
}

// TestWordsBehind: K2: none, one, several, again and again: each is behind all others.
func TestWordsBehind(t *testing.T) {
	words := reader(t, api.LW)
	script, want := []string{line("words", words...)}, []string{"ok 16"}
	for _, more := range [][]uint32{{}, {7}, {}, {1, 2, 3}, {4294967295, 0}, {2147483648}} {
		words = append(words, more...)
		script = append(script, line("words", more...))
		want = append(want, fmt.Sprintf("ok %d", 4*len(words)))
	}
	script = append(script, "set 17 1", "model 2000")
	want = append(want, "ok", readWords(words, 0))
	plays(t, lines(script...), lines(want...))
}

// filled answers so many words, the reader of words ahead, of which each is another.
func filled(t *testing.T, many int) []uint32 {
	words := reader(t, api.LW)
	for n := len(words); n < many; n++ {
		words = append(words, uint32(n)*0x01030507+0x80000000)
	}
	return words[:many]
}

// readsAll answers lines that tell a memory of words to its end, and their answers. A model tells no more than 500 of them at once.
func readsAll(words []uint32) ([]string, []string) {
	script, want := []string{"set 17 1"}, []string{"ok"}
	for _, from := range []int{4 * max(0, len(words)-490), 4 * max(0, len(words)-3)} {
		script = append(script, line("set 5", from), "model 2000")
		want = append(want, "ok", readWords(words, from))
	}
	return script, want
}

// TestMaxMemory: K2: to MaxMemory bytes, and one word more, and many more: then the memory stays as it was.
func TestMaxMemory(t *testing.T) {
	const most = api.MaxMemory / 4
	for _, at := range []int{4, 5, most - 2, most - 1, most} {
		words := filled(t, at)
		script, want := []string{line("words", words...)}, []string{fmt.Sprintf("ok %d", 4*at)}
		for _, more := range []int{most - at + 1, most - at + 2, most, most + 1, 5000} {
			script = append(script, "words"+strings.Repeat(" 1", more))
			want = append(want, "?")
		}
		script, want = append(script, "words"), append(want, fmt.Sprintf("ok %d", 4*at))
		s, w := readsAll(words)
		script, want = append(script, s...), append(want, w...)
		rest := filled(t, most)[at:]
		script, want = append(script, line("words", rest...)), append(want, "ok 4096")
		s, w = readsAll(filled(t, most))
		plays(t, lines(append(script, s...)...), lines(append(want, w...)...))
	}
	plays(t, "words"+strings.Repeat(" 1", most+1)+"\nwords", "?\nok 0\n")
	plays(t, "words"+strings.Repeat(" 1", most)+"\nwords\nwords 1\nwords 1 1\nwords", "ok 4096\nok 4096\n?\n?\nok 4096\n")
}

// TestPC: K2: the hart's PC, and nothing else of it, again and again.
func TestPC(t *testing.T) {
	plays(t, "pc 4294967295\nmodel 0\nmodel 1\nrun 50\npc 0\nmodel 0\nmodel 1\nrun 50",
		"ok\n0 0 0 4294967295\n1 2 1 4294967295\n1 2 1 4294967295\nok\n0 0 0 0\n1 2 1 0\n1 2 1 0\n")
	plays(t, "words 0 115\npc 4\nmodel 9\nrun 50\npc 0\nmodel 9\nrun 50\npc 2\nmodel 9",
		"ok 8\nok\n1 1 0 4\n1 1 0 4\nok\n1 2 2 0\n1 2 2 0\nok\n1 2 1 2\n")
	dump := registers(t)
	plays(t, lines(line("words", append([]uint32{ebreak, ebreak}, told(t, api.Ins{Op: api.ADDI, Imm: 0})...)...), line("words", dump...), "pc 12", "set 9 4", "pc 8", "pc 12", "model 2000"),
		lines("ok 12", fmt.Sprintf("ok %d", 12+4*len(dump)), "ok", "ok", "ok", "ok", strings.Replace(toldRegisters([32]uint32{9: 4}), " 392 ", " 404 ", 1)))
}

// TestSet: K2: each register from 1 to 31 alone, with each sort of word.
func TestSet(t *testing.T) {
	dump := registers(t)
	program := line("words", dump...)
	size := fmt.Sprintf("ok %d", 4*len(dump))
	for r := 1; r < 32; r++ {
		for _, w := range []uint32{0, 1, 7, 2147483647, 2147483648, 4294967295} {
			var regs [32]uint32
			regs[r] = w
			plays(t, lines(program, fmt.Sprintf("set %d %d", r, w), "model 200"), lines(size, "ok", toldRegisters(regs)))
		}
	}
}

// TestSetAgain: K2: the same register again; what another one was given stays.
func TestSetAgain(t *testing.T) {
	dump := registers(t)
	script, want := []string{line("words", dump...)}, []string{fmt.Sprintf("ok %d", 4*len(dump))}
	var regs [32]uint32
	for _, s := range []struct{ r, w uint32 }{{1, 5}, {31, 4294967295}, {1, 6}, {17, 9}, {10, 3}, {31, 0}, {1, 4294967295}, {2, 1}} {
		regs[s.r] = s.w
		script = append(script, line("set", s.r, s.w), "model 200", "run 2000")
		want = append(want, "ok", toldRegisters(regs), toldRegisters(regs))
	}
	plays(t, lines(script...), lines(want...))
}

// TestSetNone: K2: registers that are none, or 0: nothing is set.
func TestSetNone(t *testing.T) {
	dump := registers(t)
	regs := [32]uint32{1: 5, 31: 6}
	for _, r := range []uint32{0, 32, 33, 63, 64, 255, 256, 257, 65536, 65537, 2147483647, 2147483648, 2147483649, 4294967264, 4294967265, 4294967294, 4294967295} {
		script := lines(line("words", dump...), "set 1 5", "set 31 6", line("set", r, 0), line("set", r, 1), line("set", r, 4294967295), "model 200", "run 2000")
		plays(t, script, lines(fmt.Sprintf("ok %d", 4*len(dump)), "ok", "ok", "?", "?", "?", toldRegisters(regs), toldRegisters(regs)))
	}
}

// shape answers the line that makes a core that one.
func shape(c api.Config) string { return line("core", c.Window, c.Phys, c.Wide) }

// TestCore: K2: each number at its least and its greatest: the core is that one, till it is another.
func TestCore(t *testing.T) {
	words := counter(t)
	script, want := []string{line("words", words...)}, []string{"ok 64"}
	seen := map[string]bool{}
	for _, c := range []api.Config{
		{Window: 1, Phys: 64, Wide: 2}, {Window: 32, Phys: 64, Wide: 2}, {Window: 8, Phys: 33, Wide: 2}, {Window: 8, Phys: 96, Wide: 2},
		{Window: 8, Phys: 64, Wide: 1}, {Window: 8, Phys: 64, Wide: 4}, {Window: 1, Phys: 33, Wide: 1}, {Window: 32, Phys: 96, Wide: 4}, first,
	} {
		ran := ranBy(t, c, words, nil, 300)
		seen[ran] = true
		script, want = append(script, shape(c), "run 300"), append(want, "ok", ran)
	}
	plays(t, lines(script...), lines(want...))
	if len(seen) < 6 {
		t.Errorf("what cores have done is too much alike to tell them by it: %v", seen)
	}
}

// TestCoreStays: K2: a core that may not be, by each number: the one that was there stays.
func TestCoreStays(t *testing.T) {
	words := counter(t)
	for _, c := range []api.Config{{Window: 3, Phys: 34, Wide: 1}, {Window: 32, Phys: 96, Wide: 4}} {
		script, want := []string{line("words", words...), shape(c)}, []string{"ok 64", "ok"}
		for _, no := range []string{
			"0 64 2", "33 64 2", "4294967295 64 2", "4294967297 64 2", "2147483648 64 2",
			"8 32 2", "8 97 2", "8 0 2", "8 4294967295 2", "8 4294967264 2",
			"8 64 0", "8 64 5", "8 64 4294967295", "8 64 4294967292",
			"0 0 0", "4294967295 4294967295 4294967295", "64 8 2", "2 64 8", "33 97 5",
		} {
			script, want = append(script, "core "+no), append(want, "?")
		}
		ran := ranBy(t, c, words, nil, 300)
		if ran == ranBy(t, first, words, nil, 300) {
			t.Errorf("%+v does just so much as the first core", c)
		}
		plays(t, lines(append(script, "run 300")...), lines(append(want, ran)...))
		for n := 2; n < len(script); n++ {
			plays(t, lines(script[0], script[1], script[n], "run 300"), lines(want[0], want[1], want[n], ran))
			plays(t, lines(script[0], script[n], "run 300"), lines(want[0], want[n], ranBy(t, first, words, nil, 300)))
		}
	}
}

// TestChoose: K2: the choices are those of the last line, in order, and none others.
func TestChoose(t *testing.T) {
	words := counter(t)
	throw := dice(7)
	many := make([]int, 200)
	for n := range many {
		many[n] = throw(1000)
	}
	lists := [][]int{{}, {19}, {1}, many, slices.Clone(many)[:20], {4294967295, 4294967295, 9, 4294967294}, slices.Repeat([]int{29}, 500), {}, slices.Repeat([]int{4294967295}, 3000)}
	script, want := []string{line("words", words...)}, []string{"ok 64"}
	seen := map[string]bool{}
	for _, l := range lists {
		ran := ranBy(t, first, words, l, 300)
		seen[ran] = true
		script = append(script, line("choose", l...), "run 300", "run 300")
		want = append(want, fmt.Sprintf("ok %d", len(l)), ran, ran)
	}
	plays(t, lines(script...), lines(want...))
	if len(seen) < 5 {
		t.Errorf("what was done is too much alike to tell choices by it: %v", seen)
	}
}

// TestChooseStays: K2: a line that is no choose leaves the choices as they are.
func TestChooseStays(t *testing.T) {
	words, l := counter(t), slices.Repeat([]int{29}, 500)
	ran := ranBy(t, first, words, l, 300)
	if ran == ranBy(t, first, words, nil, 300) {
		t.Error("choices change nothing")
	}
	for _, other := range []string{"choose 1 01", "choose ", "choose  1", "choose 4294967296", "Choose", "model 9", "what 0", "x", ""} {
		script := lines(line("words", words...), line("choose", l...), other, "run 300")
		if got := last(t, script); got != ran {
			t.Errorf("behind %q: %q, not %q", other, got, ran)
		}
	}
}

// TestTooManyChoices: K2: any number of them are chosen; a core refuses more than MaxScript, ahead of all that is wrong with the cycles.
func TestTooManyChoices(t *testing.T) {
	for _, many := range []int{api.MaxScript - 1, api.MaxScript} {
		plays(t, "choose"+strings.Repeat(" 3", many)+"\nwords 115\nrun 100\nrun 6001\nmodel 9", fmt.Sprintf("ok %d\nok 4\n1 1 0 0\nbad 3\n1 1 0 0\n", many))
	}
	for _, many := range []int{api.MaxScript + 1, api.MaxScript + 2, 2 * api.MaxScript, 100000} {
		plays(t, "choose"+strings.Repeat(" 3", many)+"\nwords 115\nrun 100\nrun 0\nrun 6001\nmodel 9\nmodel 2001\nchoose 1\nrun 100",
			fmt.Sprintf("ok %d\nok 4\nbad 1\nbad 1\nbad 1\n1 1 0 0\nbad 3\nok 1\n1 1 0 0\n", many))
	}
}
