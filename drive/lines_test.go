package drive

import (
	"fmt"
	"slices"
	"strings"
	"testing"
)

// form is one of the words that a line may begin with: how many numbers are behind it (any: so many or more), numbers that do, and what is answered then, at first.
type form struct {
	word    string
	many    int
	any     bool
	numbers []string
	answer  string
}

func forms() []form {
	return []form{
		{"words", 0, true, []string{"19", "0", "115"}, "ok 12"},
		{"pc", 1, false, []string{"8"}, "ok"},
		{"set", 2, false, []string{"7", "9"}, "ok"},
		{"core", 3, false, []string{"4", "48", "3"}, "ok"},
		{"choose", 0, true, []string{"5", "0", "3"}, "ok 3"},
		{"model", 1, false, []string{"6"}, "1 2 1 0"},
		{"run", 1, false, []string{"50"}, "1 2 1 0"},
		{"what", 1, false, []string{"19"}, "is 19 0 0 0 0"},
	}
}

func (f form) line() string { return f.word + " " + strings.Join(f.numbers, " ") }

// TestForms: K2: each word with so many numbers as is said.
func TestForms(t *testing.T) {
	for _, f := range forms() {
		plays(t, f.line()+"\n", f.answer+"\n")
	}
}

// TestEmptyLines: K1: what is behind the last byte 10 is a line, if it is not empty.
func TestEmptyLines(t *testing.T) {
	plays(t, "", "")
	plays(t, "\n", "?\n")
	plays(t, "\n\n", "?\n?\n")
	plays(t, "\n\n\n", "?\n?\n?\n")
	plays(t, "\npc 1", "?\nok\n")
	plays(t, "pc 1\n\n", "ok\n?\n")
	plays(t, "pc 1\n\nwords", "ok\n?\nok 0\n")
	plays(t, "\n\nwords\n", "?\n?\nok 0\n")
	plays(t, "\n ", "?\n?\n")
}

// TestEnd: K1: with a byte 10 at its end and without one, a script has the same answer.
func TestEnd(t *testing.T) {
	for _, f := range forms() {
		plays(t, f.line(), f.answer+"\n")
		plays(t, f.line()+"\n", f.answer+"\n")
		plays(t, "x\n"+f.line(), "?\n"+f.answer+"\n")
		plays(t, "x\n"+f.line()+"\n", "?\n"+f.answer+"\n")
	}
	plays(t, "x", "?\n")
	plays(t, "x\n", "?\n")
}

// TestMostLines: K1: the first 40 lines count, whatever they are, and no others.
func TestMostLines(t *testing.T) {
	for _, many := range []int{1, 2, 38, 39, 40, 41, 42, 79, 80, 81, 1000, 100000} {
		var want strings.Builder
		for n := range min(many, 40) {
			fmt.Fprintf(&want, "ok %d\n", 4*n+4)
		}
		whole := strings.Repeat("words 1\n", many)
		plays(t, whole, want.String())
		plays(t, strings.TrimSuffix(whole, "\n"), want.String())
		plays(t, whole+"\n", want.String()+strings.Repeat("?\n", min(1, 40-min(many, 40))))
		plays(t, strings.Repeat("\n", many), strings.Repeat("?\n", min(many, 40)))
		plays(t, strings.Repeat("\n", many)+"words", strings.Repeat("?\n", min(many, 40))+strings.Repeat("ok 0\n", min(1, 40-min(many, 40))))
	}
}

// TestBlanks: K1, K2: one blank ahead of each number, and no other bytes.
func TestBlanks(t *testing.T) {
	for n := 1; n < 5; n++ {
		plays(t, strings.Repeat(" ", n), "?\n")
		plays(t, strings.Repeat(" ", n)+"\n", "?\n")
	}
	others := []string{" ", "\t", "\r", "\x00", "\v", "\f", "\x7f", "\x80", "\xff", "\u00a0", "\u2003", "\u3000", "\ufeff", "é", ",", ";", "#", "-", "+", ".", "_", "\"", "=", "e", "0x"}
	for _, f := range forms() {
		right := f.line()
		for _, o := range others {
			plays(t, o+right, "?\n")
			plays(t, right+o, "?\n")
			plays(t, right+o+"\nwords", "?\nok 0\n")
			plays(t, f.word+o, "?\n")
			plays(t, o+f.word, "?\n")
			for at := range len(right) {
				if right[at] == ' ' {
					plays(t, right[:at]+o+right[at:], "?\n")
					plays(t, right[:at+1]+o+right[at+1:], "?\n")
				}
				if right[at] == ' ' && o != " " {
					plays(t, right[:at]+o+right[at+1:], "?\n")
				}
			}
		}
	}
}

// TestWords: K2: each word as it is written, and no other one.
func TestWords(t *testing.T) {
	known := []string{}
	for _, f := range forms() {
		known = append(known, f.word)
	}
	for _, f := range forms() {
		rest := strings.TrimPrefix(f.line(), f.word)
		others := []string{strings.ToUpper(f.word), f.word + "s", f.word + "x", "x" + f.word, f.word + f.word, f.word + "0", f.word + "\x00"}
		for n := range len(f.word) {
			others = append(others, f.word[:n], f.word[:n]+strings.ToUpper(f.word[n:n+1])+f.word[n+1:], f.word[:n]+f.word[n+1:], f.word[n+1:])
			others = append(others, f.word[:n]+"\xff"+f.word[n+1:], f.word[:n]+"x"+f.word[n:])
		}
		for _, o := range others {
			if !slices.Contains(known, o) {
				plays(t, o+rest, "?\n")
				plays(t, o+"\n", "?\n")
			}
		}
	}
	for _, o := range []string{"ok", "?", "help", "quit", "regs", "memory", "word", "step", "4", "0 0", "4294967295 1"} {
		plays(t, o, "?\n")
		plays(t, o+" 1", "?\n")
	}
}

// TestHowMany: K2: one number fewer and one more than is said, and many more.
func TestHowMany(t *testing.T) {
	for _, f := range forms() {
		for many := range 8 {
			l := f.word + strings.Repeat(" 1", many)
			right := f.any || many == f.many && f.word != "core" // Phys 1 may not be
			if got := Play(l); (got != "?\n") != right {
				t.Errorf("%q answers %q", l, got)
			}
		}
		if !f.any {
			plays(t, strings.TrimSuffix(f.line(), " "+f.numbers[len(f.numbers)-1]), "?\n")
			for _, more := range []string{" 0", " 1", " 4294967295", " 1 1", strings.Repeat(" 1", 1000)} {
				plays(t, f.line()+more, "?\n")
			}
			plays(t, f.word, "?\n")
		}
	}
}

// notNumbers are texts that are no NUMBERs.
func notNumbers() []string {
	return []string{
		"4294967296", "4294967297", "4294967300", "4294967395", "5000000000", "9999999999",
		"10000000000", "42949672950", "42949672960", "18446744073709551615", "18446744073709551616", "18446744073709551617", "36893488147419103233",
		"1" + strings.Repeat("0", 40), strings.Repeat("9", 1000), strings.Repeat("4294967295", 300),
		"00", "01", "000", "007", "04294967295", "0000000001", "00000000001", strings.Repeat("0", 1000),
		"+1", "-1", "+0", "-0", "+", "-", "--1", "1-", "1+", "1a", "a1", "a", "0a", "1a1", "0x", "0x1", "0X1", "0b1", "0o1", "1e1", "1e", "1.0", "1.", ".1", ".", "1_0", "_1", "1_", "1,0", "1'0",
		"\x001", "1\x00", "\x00", "1\t", "\t1", "\t", "1\r", "\r", "1\xff", "\xff", "\x80", "\u0661", "\uff11", "\u00b2", "1\u00b2", "NaN", "inf", "nil", "true", "NUMBER", "/", ":", "1/", "1:", "",
	}
}

// TestNotNumbers: K1, K2: what is no NUMBER, in each place; and nothing is done then.
func TestNotNumbers(t *testing.T) {
	for _, f := range forms() {
		for _, no := range notNumbers() {
			for at := range f.numbers {
				l := slices.Clone(f.numbers)
				l[at] = no
				wrong := f.word + " " + strings.Join(l, " ")
				plays(t, wrong, "?\n")
				plays(t, wrong+"\nwords\nmodel 0", "?\nok 0\n0 0 0 0\n")
			}
			if f.any {
				plays(t, f.word+" "+no, "?\n")
				plays(t, f.word+strings.Repeat(" 1", 99)+" "+no, "?\n")
			}
		}
	}
}

// TestNumbers: K1: the ends of what a NUMBER may be, and of each number of digits.
func TestNumbers(t *testing.T) {
	least := uint64(1)
	numbers := []uint64{0, 1, 2, 2147483647, 2147483648, 4294967290, 4294967294, 4294967295}
	for range 10 {
		numbers = append(numbers, least, least+1, 2*least, min(10*least-1, 4294967295))
		least *= 10
	}
	for _, n := range numbers {
		plays(t, fmt.Sprintf("pc %d\nmodel 0", n), fmt.Sprintf("ok\n0 0 0 %d\n", n))
		plays(t, fmt.Sprintf("choose %d", n), "ok 1\n")
		plays(t, fmt.Sprintf("words %d", n), "ok 4\n")
		plays(t, fmt.Sprintf("set 1 %d", n), "ok\n")
	}
}
