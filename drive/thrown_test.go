package drive

import (
	"fmt"
	"regexp"
	"slices"
	"strconv"
	"strings"
	"testing"

	"humpyard/api"
	"humpyard/core"
	"humpyard/decode"
	"humpyard/model"
)

// other plays scripts by another way than the program, to hold it against that.
type other struct {
	hart    api.Hart
	memory  []byte
	core    api.Config
	choices []int
}

var formed = regexp.MustCompile(`\A(?:((?:words|choose)(?: (?:0|[1-9][0-9]{0,9}))*)|((?:pc|model|run|what)(?: (?:0|[1-9][0-9]{0,9})){1})|(set(?: (?:0|[1-9][0-9]{0,9})){2})|(core(?: (?:0|[1-9][0-9]{0,9})){3}))\z`)

func otherPlay(script string) string {
	o := other{core: first}
	l := strings.Split(script, "\n")
	if l[len(l)-1] == "" {
		l = l[:len(l)-1]
	}
	answer := ""
	for n, line := range l {
		if n < 40 {
			answer += o.play(line) + "\n"
		}
	}
	return answer
}

func (o *other) play(line string) string {
	if !formed.MatchString(line) {
		return "?"
	}
	fields := strings.Split(line, " ")
	var n []int
	for _, f := range fields[1:] {
		i, err := strconv.Atoi(f)
		if err != nil || i > 4294967295 {
			return "?"
		}
		n = append(n, i)
	}
	switch fields[0] {
	case "words":
		memory := slices.Clone(o.memory)
		for _, w := range n {
			memory = append(memory, laid(uint32(w))...)
		}
		if len(memory) > 4096 {
			return "?"
		}
		o.memory = memory
		return fmt.Sprint("ok ", len(memory))
	case "choose":
		o.choices = n
		return fmt.Sprint("ok ", len(n))
	case "what":
		if i, ok := decode.Decode(uint32(n[0])); ok {
			return fmt.Sprintf("is %d %d %d %d %d", i.Op, i.Rd, i.Rs1, i.Rs2, uint32(i.Imm))
		}
		return "no"
	case "model":
		commits, h, _, e := model.Run(o.hart, o.memory, n[0])
		return otherRan(commits, h, e)
	case "run":
		s, e := core.Run(o.core, o.hart, o.memory, o.choices, n[0])
		return otherRan(s.Commits, s.Hart, e)
	}
	return o.make(fields[0], n)
}

func (o *other) make(word string, n []int) string {
	was := *o
	switch word {
	case "pc":
		o.hart.PC = uint32(n[0])
	case "set":
		if n[0] < 1 || n[0] > 31 {
			return "?"
		}
		o.hart.Regs[n[0]] = uint32(n[1])
	case "core":
		o.core = api.Config{Window: n[0], Phys: n[1], Wide: n[2]}
		if !core.May(o.core) {
			*o = was
			return "?"
		}
	}
	return "ok"
}

func otherRan(commits []api.Commit, h api.Hart, e api.Errno) string {
	if e != api.OK {
		return fmt.Sprint("bad ", int(e))
	}
	s := fmt.Sprintf("%d %d %d %d", len(commits), h.State, h.Cause, h.PC)
	for _, c := range commits {
		if c.Out {
			s += fmt.Sprintf(" %d", c.Told)
		}
	}
	return s
}

// thrownNumber answers a number as it may stand in a script: mostly a small one, or one at an end.
func thrownNumber(throw func(int) int) string {
	ends := []string{"0", "1", "31", "32", "33", "64", "96", "97", "115", "2000", "2001", "6000", "6001", "4294967295", "4294967296", "01", "00", "-1", "+1", "1a", ""}
	switch throw(8) {
	case 0:
		return ends[throw(len(ends))]
	case 1:
		return fmt.Sprint(uint32(throw(1<<16))<<16 | uint32(throw(1<<16)))
	case 2:
		return fmt.Sprint(throw(2200))
	}
	return fmt.Sprint(throw(35))
}

// thrownLine answers a line that is mostly as it should be.
func thrownLine(throw func(int) int, programs [][]uint32) string {
	f := forms()[throw(len(forms()))]
	many := f.many
	if f.any {
		many = throw(6)
	}
	switch throw(24) {
	case 0:
		many = throw(5)
	case 1, 2, 3, 4:
		return line("words", programs[throw(len(programs))]...)
	case 5:
		return fmt.Sprintf("core %d %d %d", 1+throw(32), 33+throw(64), 1+throw(4))
	case 6:
		return fmt.Sprintf("set 17 %d", throw(3))
	case 7:
		return fmt.Sprintf("pc %d", 4*throw(30))
	}
	l := f.word
	for range many {
		l += " " + thrownNumber(throw)
	}
	if throw(12) == 0 && len(l) > 0 {
		at := throw(len(l))
		l = l[:at] + string(rune(throw(300))) + l[at+throw(2):]
	}
	return l
}

func thrownScript(t *testing.T, throw func(int) int) string {
	programs := [][]uint32{counts(t), counter(t), reader(t, api.LW), traps(t, ebreak), traps(t, 0)}
	var b strings.Builder
	for range throw(50) {
		b.WriteString(thrownLine(throw, programs) + "\n")
	}
	return strings.TrimSuffix(b.String(), []string{"", "\n"}[throw(2)])
}

// TestThrown: K1, K2: scripts that were thrown, against another way to play them.
func TestThrown(t *testing.T) {
	throw := dice(11)
	for range 600 {
		script := thrownScript(t, throw)
		plays(t, script, otherPlay(script))
		if t.Failed() {
			t.Fatalf("%q", script)
		}
	}
}

// TestThrownBytes: P1, K1: whatever the bytes are, each line has an answer.
func TestThrownBytes(t *testing.T) {
	throw := dice(12)
	letters := "wordspcetcoehmlunai 0123456789 \n\n\t\r\x00\xff\xc3"
	for n := range 4000 {
		b := make([]byte, throw(120))
		for at := range b {
			b[at] = letters[throw(len(letters))]
			if n%2 == 0 {
				b[at] = byte(throw(256))
			}
		}
		plays(t, string(b), otherPlay(string(b)))
	}
}

// begins: K3.
func begins(t *testing.T, script string) {
	t.Helper()
	whole := Play(script)
	for at := range len(script) {
		if script[at] == '\n' && !strings.HasPrefix(whole, Play(script[:at+1])) {
			t.Errorf("the answer to %s does not begin with that to its first %d bytes", short(script), at+1)
		}
	}
	if again := Play(script); again != whole {
		t.Errorf("%s has two answers, %s and %s", short(script), short(whole), short(again))
	}
}

// TestBegins: K3, P3: the answer to a beginning is a beginning of the answer; the same script has the same answer.
func TestBegins(t *testing.T) {
	begins(t, "\n\n\n")
	begins(t, strings.Repeat("words 1\n", 60))
	begins(t, strings.Repeat("\n", 60)+"words")
	begins(t, "words 1377555 115\nset 17 1\nmodel 9\nrun 200\nwhat 115\ncore 0 64 1\nchoose 1 2\npc 007")
	for _, s := range stories(t) {
		script, _ := s.script()
		begins(t, script+"model 2000\nrun 6000\npc 4\n\nset 17 0\nrun 77\nchoose 9 9 9\nrun 78\nwords 115\ncore 1 33 1\nrun 79\nmodel 80")
	}
	throw := dice(13)
	for range 60 {
		begins(t, thrownScript(t, throw))
	}
}

// TestNothingKept: P3, K1: a script begins anew, whatever was played ahead of it.
func TestNothingKept(t *testing.T) {
	const probe = "words\nmodel 0\nmodel 1\nrun 100\nwords 111\nrun 500"
	was := Play(probe)
	Play("words 115 115\nset 1 5\nset 17 1\npc 4\ncore 1 33 1\nchoose 1 2 3\nrun 100\nmodel 5")
	plays(t, probe, was)
}

// TestGreatest: P1: the greatest work that lines can ask for, and a line of very many numbers.
func TestGreatest(t *testing.T) {
	words := append(counter(t), make([]uint32, api.MaxMemory/4-16)...)
	script := lines(line("words", words...), "core 32 96 4", "choose"+strings.Repeat(" 4294967295", api.MaxScript)) + strings.Repeat("run 6000\nmodel 2000\n", 40)
	answers := strings.Split(strings.TrimSuffix(Play(script), "\n"), "\n")
	if len(answers) != 40 {
		t.Fatalf("%d lines", len(answers))
	}
	for n := 5; n < 40; n++ {
		if answers[n] != answers[n-2] {
			t.Errorf("line %d: %q, and then %q", n, answers[n-2], answers[n])
		}
	}
	const many = 2_000_000
	plays(t, "choose"+strings.Repeat(" 4294967295", many)+"\nrun 9", fmt.Sprintf("ok %d\nbad 1\n", many))
	plays(t, "words"+strings.Repeat(" 4294967295", many)+"\nwords", "?\nok 0\n")
	plays(t, strings.Repeat(" ", many)+"\npc 1", "?\nok\n")
	plays(t, "pc "+strings.Repeat("1", many)+"\npc 1", "?\nok\n")
	plays(t, strings.Repeat("\n", many), strings.Repeat("?\n", 40))
}

// TestDocument: K1, K2: several lines, written out.
func TestDocument(t *testing.T) {
	plays(t, "words 1377555 115\nset 17 1\nmodel 9\nrun 200\nwhat 115\ncore 0 64 1\nchoose 1 2\npc 007",
		"ok 8\nok\n3 2 1 8 1\n3 2 1 8 1\nis 47 0 0 0 0\n?\nok 2\n?\n")
}
