package tock

import (
	"math/rand"
	"slices"
	"testing"
)

func TestTheNextRunComesOutFirst(t *testing.T) {
	source := rand.New(rand.NewSource(3))
	for count := range 40 {
		var all []run
		var q queue
		for range count {
			r := run{minute: source.Intn(9), job: source.Intn(6), late: source.Intn(3) == 0}
			all = append(all, r)
			q.push(r)
		}
		slices.SortFunc(all, func(a, b run) int {
			if a.before(b) {
				return -1
			}
			if b.before(a) {
				return 1
			}
			return 0
		})
		for i, want := range all {
			if got := q.pop(); got != want {
				t.Fatalf("run %d of %d was %v, want %v", i, count, got, want)
			}
		}
		if len(q) != 0 {
			t.Fatalf("%d runs are left of %d", len(q), count)
		}
	}
}

// What comes in between what goes out finds its place, too.
func TestRunsComeInWhileOthersGoOut(t *testing.T) {
	source := rand.New(rand.NewSource(4))
	var q queue
	var all []run
	for range 2000 {
		if len(all) == 0 || source.Intn(9) < 5 {
			r := run{minute: source.Intn(50), job: source.Intn(6)}
			q.push(r)
			all = append(all, r)
			continue
		}
		first := 0
		for i := range all {
			if all[i].before(all[first]) {
				first = i
			}
		}
		if got := q.pop(); got != all[first] {
			t.Fatalf("%v came out, want %v", got, all[first])
		}
		all = slices.Delete(all, first, first+1)
	}
}

func TestWhichRunIsToldFirst(t *testing.T) {
	inOrder := []run{
		{1, 0, true}, {1, 5, true}, {1, 0, false}, {1, 1, false}, {1, 5, false}, {2, 0, true}, {2, 0, false},
	}
	for i, a := range inOrder {
		for j, b := range inOrder {
			if a.before(b) != (i < j) {
				t.Errorf("%v before %v is %v", a, b, a.before(b))
			}
		}
	}
}
