package core

import (
	"testing"

	"humpyard/api"
)

// TestStories: J3: each story, over the cores and the scripts: each with each second one of the others.
func TestStories(t *testing.T) {
	for _, s := range stories(t) {
		t.Run(s.name, func(t *testing.T) {
			t.Parallel()
			for n, c := range cores() {
				for k, script := range scripts() {
					if (n+k)%2 == 0 {
						holds(t, s.name, c, s.h, s.m, script, 120)
					}
				}
			}
		})
	}
}

// TestStoriesToTheEnd: J3: each story whole, and that it asks what it is meant to.
func TestStoriesToTheEnd(t *testing.T) {
	for _, s := range stories(t) {
		t.Run(s.name, func(t *testing.T) {
			t.Parallel()
			for n, script := range [][]int{nil, same(api.MaxScript, 1), scripted(api.MaxScript, func(n int) int { return n * 13 })} {
				got := holds(t, s.name, most, s.h, s.m, script, 2000)
				if n == 0 && s.back && got.Back == 0 {
					t.Errorf("%s: nothing is taken back", s.name)
				}
			}
			if got := holds(t, s.name, least, s.h, s.m, nil, 2000); got.Back != 0 {
				t.Errorf("%s: where one alone is under way, nothing is taken back", s.name)
			}
		})
	}
}
