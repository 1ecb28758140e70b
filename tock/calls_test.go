package tock_test

import (
	"fmt"
	"math"
	"slices"
	"strings"
	"sync"
	"testing"

	"tock/tock"
)

const place = "+01:00 60 3.5.0@02:00 10.5.0@03:00"

// oddTexts are zones, fields and texts that are neither.
func oddTexts() []string {
	texts := []string{
		"", " ", "\x00", "\xff\xfe", "é", "+", "-", "*", "/", ",", ":", "@", ".",
		"+00:00", "-14:00", place, place + " ", "+01:00 60 3.5.0@02:00 3.5.0@02:00",
		"* * * * *", "*/99 0-23/23 1,2,31 1-12/11 0,6", "0 0 31 2 *", "60 * * * *", "* * * *",
		"99999999999999999999999999", "+01:00 99999999999999999999999999",
		strings.Repeat("9", 100), strings.Repeat("+", 101), strings.Repeat("\x00", 100000),
	}
	for b := 0; b < 256; b++ {
		texts = append(texts, string([]byte{byte(b)}))
	}
	return texts
}

var oddMinutes = []int{
	math.MinInt, math.MinInt32, -1441, -1, 0, 1, 1440, 29579099, 69999999, 70000000,
	70000001, math.MaxInt32, math.MaxInt,
}

// oddJobs run always, never, seldom and all at once.
var oddJobs = []tock.Job{
	{Name: "a", Fields: "* * * * *"}, {Name: "b", Fields: "0 0 30 2 *"}, {Name: "c", Fields: "0 0 29 2 */6"},
	{Name: "a", Fields: "0-59 0-23 1-31 1-12 0-6"},
}

func TestP1EveryCallEndsAndNonePanics(t *testing.T) {
	for _, a := range oddTexts() {
		for _, b := range oddTexts() {
			tock.Check(a, b)
		}
		for _, minute := range oddMinutes {
			tock.Local(a, minute)
			tock.Runs(a, "*/7 * * * *", minute)
			tock.Runs(place, a, minute)
			tock.Next(a, "0 0 31 2 *", minute)
			tock.Next(place, a, minute)
			tock.Tell(a, []tock.Job{{Name: a, Fields: a}}, []tock.Span{{From: minute, To: minute}})
		}
		tock.Tell(a, nil, nil)
	}
	tock.Tell(place, make([]tock.Job, 1000), make([]tock.Span, 1000))
	for _, from := range oddMinutes {
		for _, to := range oddMinutes {
			tock.Tell(place, oddJobs, []tock.Span{{From: from, To: to}})
			tock.Tell(place, oddJobs, []tock.Span{{From: 0, To: from}, {From: to, To: to}})
			tock.Tell(place, oddJobs, []tock.Span{{From: 0, To: 0}, {From: from, To: to}})
		}
	}
}

func TestP1TheErrorNamedFirst(t *testing.T) {
	long := strings.Repeat("x", 101)
	for _, c := range []struct {
		zone, fields string
		want         tock.Errno
	}{
		{"x", long, tock.ErrLong},
		{long, "x", tock.ErrLong},
		{long, long, tock.ErrLong},
		{place, long, tock.ErrLong},
		{"x", "x", tock.ErrZone},
		{place, "x", tock.ErrFields},
	} {
		if e, _ := tock.Check(c.zone, c.fields); e != c.want {
			t.Errorf("Check(%.20q, %.20q) = %d, want %d", c.zone, c.fields, e, c.want)
		}
		for _, minute := range []int{-1, 0, 70000001} {
			if _, e := tock.Runs(c.zone, c.fields, minute); e != c.want {
				t.Errorf("Runs(%.20q, %.20q, %d) = %d, want %d", c.zone, c.fields, minute, e, c.want)
			}
			if _, e := tock.Next(c.zone, c.fields, minute); e != c.want {
				t.Errorf("Next(%.20q, %.20q, %d) = %d, want %d", c.zone, c.fields, minute, e, c.want)
			}
		}
	}
	for _, c := range []struct {
		zone   string
		minute int
		want   tock.Errno
	}{
		{long, -1, tock.ErrLong},
		{"x", -1, tock.ErrZone},
		{"x", 70000001, tock.ErrZone},
		{place, -1, tock.ErrRange},
	} {
		if _, e := tock.Local(c.zone, c.minute); e != c.want {
			t.Errorf("Local(%.20q, %d) = %d, want %d", c.zone, c.minute, e, c.want)
		}
	}
}

func TestP1ZeroValuesWithAnError(t *testing.T) {
	for _, text := range oddTexts() {
		for _, minute := range oddMinutes {
			if s, e := tock.Local(text, minute); (s == "") != (e != tock.OK) {
				t.Errorf("Local(%.20q, %d) = %q, %d", text, minute, s, e)
			}
			jobs := []tock.Job{{Name: "a", Fields: every}, {Name: text, Fields: every}}
			for _, to := range oddMinutes {
				spans := []tock.Span{{From: 0, To: 1}, {From: minute, To: to}}
				if s, e, _ := tock.Tell(place, jobs, spans); s != "" && e != tock.OK {
					t.Errorf("Tell(.., %.20q, %d, %d) = %.20q, %d", text, minute, to, s, e)
				}
				if s, e, _ := tock.Tell(text, jobs[:1], spans); s != "" && e != tock.OK {
					t.Errorf("Tell(%.20q, .., %d, %d) = %.20q, %d", text, minute, to, s, e)
				}
			}
			for _, zone := range []string{text, place} {
				for _, fields := range []string{text, "* * * * *", "0 0 31 2 *"} {
					if runs, e := tock.Runs(zone, fields, minute); runs && e != tock.OK {
						t.Errorf("Runs(%.20q, %.20q, %d) = %v, %d", zone, fields, minute, runs, e)
					}
					if n, e := tock.Next(zone, fields, minute); n != 0 && e != tock.OK {
						t.Errorf("Next(%.20q, %.20q, %d) = %d, %d", zone, fields, minute, n, e)
					}
				}
			}
		}
	}
}

// answers asks the same of the calls each time.
func answers() []string {
	var all []string
	for _, zone := range goodZones {
		for _, fields := range append(oddTexts(), goodFields...) {
			for _, minute := range oddMinutes {
				runs, e := tock.Runs(zone, fields, minute)
				n, ne := tock.Next(zone, fields, minute)
				all = append(all, fmt.Sprint(runs, e, n, ne))
			}
		}
	}
	for _, from := range oddMinutes {
		for _, length := range []int{0, 1, 149, 150, 151, 9999} {
			s, e, at := tock.Tell(place, oddJobs, []tock.Span{{From: 0, To: 1}, {From: from, To: from + length}})
			all = append(all, fmt.Sprint(s, e, at))
		}
	}
	for _, text := range oddTexts() {
		e, at := tock.Check(text, text)
		all = append(all, string(rune('0'+e))+string(rune(at)))
		e, at = tock.Check(place, text)
		all = append(all, string(rune('0'+e))+string(rune(at)))
		for _, minute := range oddMinutes {
			s, e := tock.Local(text, minute)
			all = append(all, s+string(rune('0'+e)))
		}
	}
	return all
}

func TestP2ArgumentsAlone(t *testing.T) {
	want := answers()
	got := make([][]string, 8)
	var group sync.WaitGroup
	for i := range got {
		group.Add(1)
		go func() {
			defer group.Done()
			got[i] = answers()
		}()
	}
	group.Wait()
	for _, g := range got {
		if !slices.Equal(g, want) {
			t.Fatal("the same calls answered differently")
		}
	}
}

func TestP2ListsAreNotChanged(t *testing.T) {
	jobs := []tock.Job{{Name: "b", Fields: "30 2 * * *"}, {Name: "a", Fields: "* * * * *"}, {Name: "a", Fields: "30 * * * *"}, {Name: "", Fields: "x"}}
	spans := []tock.Span{{From: 29579090, To: 29579095}, {From: 29579099, To: 29579110}, {From: 29579200, To: 29579999}, {From: 5, To: 1}}
	for j := range len(jobs) + 1 {
		for s := range len(spans) + 1 {
			haveJobs, haveSpans := slices.Clone(jobs), slices.Clone(spans)
			_, errno, _ := tock.Tell(place, haveJobs[:j], haveSpans[:s])
			// What lies behind a list's end is not Tell's, either.
			if !slices.Equal(haveJobs, jobs) || !slices.Equal(haveSpans, spans) {
				t.Errorf("Tell of %d jobs and %d spans (%d) changed a list", j, s, errno)
			}
		}
	}
}
