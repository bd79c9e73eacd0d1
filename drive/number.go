package drive

import (
	"strconv"
	"strings"
)

// number is of any kind that is told.
type number interface{ ~int | ~uint32 }

// tell answers a text with numbers behind it, each behind a blank.
func tell[N number](text string, n ...N) string {
	told := []byte(text)
	for _, one := range n {
		told = append(told, ' ')
		told = append(told, digits(one)...)
	}
	return string(told)
}

func digits[N number](n N) string { return strconv.FormatInt(int64(n), 10) }

// numbers answers the NUMBERs of a text, with one blank between, and whether it has nothing else; none, where there is no text at all, which is not the same as an empty one.
func numbers(text string, there bool) ([]uint32, bool) {
	var l []uint32
	for there {
		var one string
		one, text, there = strings.Cut(text, " ")
		n, ok := read(one)
		if !ok {
			return nil, false
		}
		l = append(l, n)
	}
	return l, true
}

// read answers the NUMBER that a text is, and whether it is one.
func read(text string) (uint32, bool) {
	if len(text) > 1 && text[0] == '0' {
		return 0, false
	}
	n, err := strconv.ParseUint(text, 10, 32)
	return uint32(n), err == nil
}
