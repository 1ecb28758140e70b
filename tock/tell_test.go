package tock_test

import (
	"fmt"
	"math"
	"math/rand"
	"runtime"
	"slices"
	"strings"
	"testing"
	"time"

	"tock/tock"
)

const (
	maxJobs  = 6
	maxSpans = 6
	maxTold  = 300
)

type (
	jobs  = []tock.Job
	spans = []tock.Span
)

func wantTold(t *testing.T, zone string, j jobs, s spans, want string) {
	t.Helper()
	if got, e, at := tock.Tell(zone, j, s); got != want || e != tock.OK || at != 0 {
		t.Errorf("Tell(%q, %v, %v) = %q, %d, %d, want %q", zone, j, s, got, e, at, want)
	}
}

func wantRefused(t *testing.T, zone string, j jobs, s spans, want tock.Errno, number int) {
	t.Helper()
	if got, e, at := tock.Tell(zone, j, s); got != "" || e != want || at != number {
		t.Errorf("Tell(%.40q, %.200v, %v) = %.60q, %d, %d, want %d, %d", zone, j, s, got, e, at, want, number)
	}
}

// lines ends each line, the last one, too.
func lines(all ...string) string { return strings.Join(append(all, ""), "\n") }

// nothing is a job that never runs.
var nothing = tock.Job{Name: "nothing", Fields: "0 0 30 2 *"}

func TestP7Lines(t *testing.T) {
	quarter := tock.Job{Name: "quarter", Fields: "*/15 * * * *"}
	half := tock.Job{Name: "half", Fields: "*/30 * * * *"}
	hour := tock.Job{Name: "hour", Fields: "0 * * * *"}
	for _, c := range []struct {
		jobs  jobs
		spans spans
		want  string
	}{
		{jobs{half}, spans{{From: 0, To: 61}}, lines("0 half", "30 half", "60 half")},
		{jobs{half}, spans{{From: 1, To: 60}}, lines("30 half")},
		{jobs{half}, spans{{From: 30, To: 31}}, lines("30 half")},
		{jobs{half}, spans{{From: 31, To: 60}}, ""},
		// At one minute: in the order in which they are given, whatever their names.
		{jobs{quarter, half, hour}, spans{{From: 60, To: 91}}, lines(
			"60 quarter", "60 half", "60 hour", "75 quarter", "90 quarter", "90 half")},
		{jobs{hour, half, quarter}, spans{{From: 60, To: 91}}, lines(
			"60 hour", "60 half", "60 quarter", "75 quarter", "90 half", "90 quarter")},
		{jobs{half, hour, quarter}, spans{{From: 45, To: 61}}, lines(
			"45 quarter", "60 half", "60 hour", "60 quarter")},
		// Two jobs may be the same.
		{jobs{hour, hour}, spans{{From: 0, To: 60}}, lines("0 hour", "0 hour")},
		// A job that never runs is in nobody's way.
		{jobs{nothing, hour, nothing}, spans{{From: 0, To: 61}, {From: 121, To: 122}}, lines(
			"0 hour", "60 hour", "121 hour late")},
		{jobs{nothing}, spans{{From: 0, To: maxMinute}}, ""},
		// As many jobs and spans as there may be.
		{
			jobs{hour, half, hour, half, hour, quarter},
			spans{{From: 0, To: 1}, {From: 14, To: 14}, {From: 15, To: 16}, {From: 29, To: 31}, {From: 32, To: 33}, {From: 61, To: 62}},
			lines("0 hour", "0 half", "0 hour", "0 half", "0 hour", "0 quarter", "15 quarter", "30 half", "30 half", "30 quarter",
				"61 hour late", "61 half late", "61 hour late", "61 half late", "61 hour late", "61 quarter late"),
		},
		// The shortest name and the longest one.
		{jobs{{Name: "a", Fields: "0 0 * * *"}, {Name: "abcdefghiz", Fields: "0 0 * * *"}}, spans{{From: 0, To: 1}}, lines(
			"0 a", "0 abcdefghiz")},
	} {
		wantTold(t, "+00:00", c.jobs, c.spans, c.want)
	}
}

func TestP7Late(t *testing.T) {
	hour := tock.Job{Name: "hour", Fields: "0 * * * *"}
	ten := tock.Job{Name: "ten", Fields: "10 * * * *"}
	always := tock.Job{Name: "always", Fields: every}
	for _, c := range []struct {
		jobs  jobs
		spans spans
		want  string
	}{
		// Not for the first span.
		{jobs{hour, always}, spans{{From: 61, To: 61}}, ""},
		{jobs{hour}, spans{{From: 61, To: 70}}, ""},
		// Once, however often it was missed.
		{jobs{hour}, spans{{From: 1, To: 2}, {From: 1000, To: 1001}}, lines("1000 hour late")},
		// In the jobs' order, whichever was missed first; ahead of all else.
		{jobs{ten, hour}, spans{{From: 1, To: 2}, {From: 71, To: 121}}, lines("71 ten late", "71 hour late", "120 hour")},
		{jobs{hour, ten}, spans{{From: 1, To: 5}, {From: 65, To: 66}}, lines("65 hour late", "65 ten late")},
		{jobs{hour, always}, spans{{From: 1, To: 1}, {From: 120, To: 121}}, lines(
			"120 hour late", "120 always late", "120 hour", "120 always")},
		{jobs{always, hour}, spans{{From: 1, To: 1}, {From: 60, To: 61}}, lines("60 always late", "60 always", "60 hour")},
		// The first minute and the last one at which it is down.
		{jobs{hour}, spans{{From: 59, To: 60}, {From: 61, To: 62}}, lines("61 hour late")},
		{jobs{hour}, spans{{From: 59, To: 61}, {From: 62, To: 63}}, lines("60 hour")},
		{jobs{hour}, spans{{From: 1, To: 2}, {From: 60, To: 61}}, lines("60 hour")},
		{jobs{hour}, spans{{From: 1, To: 2}, {From: 60, To: 60}, {From: 61, To: 62}}, lines("61 hour late")},
		// Spans that meet miss nothing.
		{jobs{always}, spans{{From: 10, To: 12}, {From: 12, To: 13}}, lines("10 always", "11 always", "12 always")},
		{jobs{always}, spans{{From: 10, To: 10}, {From: 10, To: 10}, {From: 10, To: 11}}, lines("10 always")},
		// An empty span tells what is late; the next one doesn't tell it again.
		{jobs{hour}, spans{{From: 1, To: 1}, {From: 100, To: 100}, {From: 110, To: 121}}, lines("100 hour late", "120 hour")},
		{jobs{always}, spans{{From: 1, To: 1}, {From: 3, To: 3}, {From: 3, To: 3}, {From: 4, To: 4}}, lines("3 always late", "4 always late")},
		{jobs{always}, spans{{From: 0, To: 0}, {From: maxMinute, To: maxMinute}}, lines("70000000 always late")},
	} {
		wantTold(t, "+00:00", c.jobs, c.spans, c.want)
	}
}

func TestP7Nothing(t *testing.T) {
	always := tock.Job{Name: "always", Fields: every}
	wantTold(t, place, nil, nil, "")
	wantTold(t, place, jobs{}, spans{}, "")
	wantTold(t, place, jobs{always}, nil, "")
	wantTold(t, place, nil, spans{{From: 0, To: maxMinute}}, "")
	wantTold(t, place, nil, spans{{From: 0, To: 1}, {From: 5, To: 9}}, "")
	wantTold(t, place, jobs{always}, spans{{From: 7, To: 7}}, "")
	wantTold(t, place, jobs{always}, spans{{From: maxMinute, To: maxMinute}}, "")
}

// The clock is turned within a span, and while the machine is down.
func TestP7Turns(t *testing.T) {
	set := tock.Job{Name: "set", Fields: "30 2 * * *"}
	half := tock.Job{Name: "half", Fields: "*/30 2 * * *"}
	begins, ends := minuteOf(t, "2026-03-29 01:00"), minuteOf(t, "2026-10-25 01:00")
	at := func(minute int, rest string) string { return fmt.Sprint(minute, rest) }
	wantTold(t, place, jobs{set, half}, spans{{From: begins - 90, To: begins + 90}}, lines(at(begins, " set")))
	wantTold(t, place, jobs{set, half}, spans{{From: begins - 90, To: begins}, {From: begins + 1, To: begins + 2}}, lines(at(begins+1, " set late")))
	wantTold(t, place, jobs{set, half}, spans{{From: begins - 90, To: begins - 1}, {From: begins, To: begins + 2}}, lines(at(begins, " set")))
	wantTold(t, place, jobs{set, half}, spans{{From: ends - 60, To: ends + 60}}, lines(
		at(ends-60, " half"), at(ends-30, " set"), at(ends-30, " half"), at(ends, " half"), at(ends+30, " half")))
	wantTold(t, place, jobs{set, half}, spans{{From: ends - 90, To: ends - 60}, {From: ends + 31, To: ends + 32}}, lines(
		at(ends+31, " set late"), at(ends+31, " half late")))
	wantTold(t, place, jobs{set, half}, spans{{From: ends - 90, To: ends - 89}, {From: ends - 5, To: ends}, {From: ends + 60, To: ends + 61}}, lines(
		at(ends-5, " set late"), at(ends-5, " half late"), at(ends+60, " half late")))
}

func TestP7UpToTheLastMinute(t *testing.T) {
	last := tock.Job{Name: "last", Fields: "39-41 2 4 2 0"}
	always := tock.Job{Name: "always", Fields: every}
	wantTold(t, "+00:00", jobs{last}, spans{{From: maxMinute - 9, To: maxMinute}}, lines("69999999 last"))
	wantTold(t, "+00:00", jobs{always}, spans{{From: maxMinute - 2, To: maxMinute}}, lines("69999998 always", "69999999 always"))
	wantTold(t, "+00:00", jobs{{Name: "first", Fields: "0 0 1 1 4"}, last}, spans{{From: 0, To: 1}, {From: maxMinute, To: maxMinute}}, lines(
		"0 first", "70000000 first late", "70000000 last late"))
	wantTold(t, "+00:00", jobs{{Name: "leap", Fields: "0 0 29 2 */99"}}, spans{{From: 0, To: maxMinute}}, lines(
		fmt.Sprint(minuteOf(t, "1976-02-29 00:00"), " leap"), fmt.Sprint(minuteOf(t, "2004-02-29 00:00"), " leap"),
		fmt.Sprint(minuteOf(t, "2032-02-29 00:00"), " leap"), fmt.Sprint(minuteOf(t, "2060-02-29 00:00"), " leap"),
		fmt.Sprint(minuteOf(t, "2088-02-29 00:00"), " leap")))
}

func TestP7Many(t *testing.T) {
	always := tock.Job{Name: "always", Fields: every}
	hour := tock.Job{Name: "hour", Fields: "0 * * * *"}
	for _, c := range []struct {
		jobs  jobs
		spans spans
		told  int // 0: too many
	}{
		{jobs{always}, spans{{From: 0, To: 299}}, 299},
		{jobs{always}, spans{{From: 0, To: 300}}, 300},
		{jobs{always}, spans{{From: 0, To: 301}}, 0},
		{jobs{always}, spans{{From: 0, To: maxMinute}}, 0},
		{jobs{always}, spans{{From: maxMinute - 300, To: maxMinute}}, 300},
		{jobs{always}, spans{{From: maxMinute - 301, To: maxMinute}}, 0},
		{jobs{always, always, always}, spans{{From: 7, To: 107}}, 300},
		{jobs{always, hour, always, always}, spans{{From: 121, To: 179}, {From: 179, To: 221}}, 0},
		{jobs{always, hour, always}, spans{{From: 1, To: 150}}, 300},
		{jobs{always, hour, always}, spans{{From: 1, To: 151}}, 0},
		{slices.Repeat(jobs{always}, 6), spans{{From: 1, To: 51}}, 300},
		{slices.Repeat(jobs{always}, 6), spans{{From: 1, To: 52}}, 0},
		// Those that are late count, too.
		{jobs{always}, spans{{From: 0, To: 100}, {From: 101, To: 300}}, 300},
		{jobs{always}, spans{{From: 0, To: 100}, {From: 101, To: 301}}, 0},
		{jobs{always}, spans{{From: 0, To: 300}, {From: 300, To: 300}}, 300},
		{jobs{always}, spans{{From: 0, To: 300}, {From: 301, To: 301}}, 0},
		{jobs{hour, always}, spans{{From: 1, To: 300}, {From: 301, To: 301}}, 0},
	} {
		told, e, at := tock.Tell("+00:00", c.jobs, c.spans)
		want := tock.OK
		if c.told == 0 {
			want = tock.ErrMany
		}
		if e != want || at != 0 || strings.Count(told, "\n") != c.told || e != tock.OK && told != "" {
			t.Errorf("Tell(.., %v, %v) = %d lines, %d, %d, want %d, %d, 0", c.jobs, c.spans, strings.Count(told, "\n"), e, at, c.told, want)
		}
	}
}

func TestP7Zones(t *testing.T) {
	wantRefused(t, strings.Repeat("+", 101), nil, nil, tock.ErrLong, 0)
	wantRefused(t, place+strings.Repeat(" ", 67), nil, nil, tock.ErrLong, 0)
	wantRefused(t, place+strings.Repeat(" ", 66), nil, nil, tock.ErrZone, 34)
	for _, zone := range oddTexts() {
		if e, at := tock.Check(zone, every); e != tock.OK {
			wantRefused(t, zone, nil, nil, e, at)
			wantRefused(t, zone, jobs{nothing}, spans{{From: 1, To: 2}}, e, at)
		}
	}
}

func TestP7Jobs(t *testing.T) {
	good := tock.Job{Name: "good", Fields: every}
	hundred := "10" + strings.Repeat(",0", 45) + " * * * *"
	long := "0" + strings.Repeat(",0", 46) + " * * * *"
	if len(hundred) != 100 || len(long) != 101 {
		t.Fatalf("the test's own texts have %d and %d bytes", len(hundred), len(long))
	}
	wantTold(t, "+00:00", jobs{{Name: "long", Fields: hundred}}, nil, "")
	bad := jobs{
		{}, {Name: "", Fields: every}, {Name: "abcdefghijk", Fields: every}, {Name: strings.Repeat("a", 100000), Fields: every},
		{Name: "A", Fields: every}, {Name: "aZ", Fields: every}, {Name: "a1", Fields: every}, {Name: "a b", Fields: every},
		{Name: " a", Fields: every}, {Name: "a\n", Fields: every}, {Name: "\x00", Fields: every}, {Name: "a\xff", Fields: every},
		{Name: "é", Fields: every}, {Name: "`", Fields: every}, {Name: "a{", Fields: every}, {Name: "a-b", Fields: every},
		{Name: "a", Fields: ""}, {Name: "a", Fields: "*"}, {Name: "a", Fields: "* * * *"}, {Name: "a", Fields: "60 * * * *"},
		{Name: "a", Fields: "* * * * * "}, {Name: "a", Fields: "* * * * 7"}, {Name: "a", Fields: "*/0 * * * *"},
		{Name: "a", Fields: "9-8 * * * *"}, {Name: "a", Fields: long}, {Name: "a", Fields: strings.Repeat("*", 101)},
		{Name: "a", Fields: strings.Repeat("9", 100000)},
	}
	for _, b := range bad {
		for n := range maxJobs {
			some := append(slices.Repeat(jobs{good}, n), b)
			wantRefused(t, place, some, nil, tock.ErrFields, n)
			if n+1 < maxJobs {
				wantRefused(t, place, append(some, good), spans{{From: 1, To: 2}}, tock.ErrFields, n)
			}
		}
	}
	// The first one of those that are wrong, in whatever they are.
	wantRefused(t, place, jobs{good, {Name: "a", Fields: "x"}, {Name: "A", Fields: every}}, nil, tock.ErrFields, 1)
	wantRefused(t, place, jobs{good, {Name: "A", Fields: every}, {Name: "a", Fields: long}}, nil, tock.ErrFields, 1)
	wantRefused(t, place, jobs{{Name: "a", Fields: long}, {Name: "a", Fields: "x"}, good}, nil, tock.ErrFields, 0)
}

func TestP7Spans(t *testing.T) {
	for _, c := range []struct {
		spans  spans
		number int
	}{
		{spans{{From: -1, To: 0}}, 0},
		{spans{{From: math.MinInt, To: math.MaxInt}}, 0},
		{spans{{From: math.MaxInt, To: math.MinInt}}, 0},
		{spans{{From: 5, To: 4}}, 0},
		{spans{{From: 0, To: -1}}, 0},
		{spans{{From: 5, To: maxMinute + 1}}, 0},
		{spans{{From: maxMinute + 1, To: maxMinute + 1}}, 0},
		{spans{{From: 5, To: math.MaxInt}}, 0},
		{spans{{From: 1, To: 5}, {From: 4, To: 9}}, 1},
		{spans{{From: 1, To: 5}, {From: 0, To: 0}}, 1},
		{spans{{From: 1, To: 5}, {From: 5, To: 4}}, 1},
		{spans{{From: 1, To: 5}, {From: -1, To: 9}}, 1},
		{spans{{From: 1, To: 5}, {From: 5, To: maxMinute + 1}}, 1},
		{spans{{From: 1, To: 5}, {From: 5, To: 5}, {From: 6, To: 6}, {From: 5, To: 7}}, 3},
		{spans{{From: 0, To: maxMinute}, {From: maxMinute - 1, To: maxMinute}}, 1},
		{spans{{From: 0, To: 1}, {From: 1, To: 2}, {From: 2, To: 3}, {From: 3, To: 4}, {From: 4, To: 5}, {From: 5, To: 4}}, 5},
		// The first one of those that are wrong.
		{spans{{From: 5, To: 6}, {From: 9, To: 8}, {From: -1, To: 0}}, 1},
		{spans{{From: 5, To: 4}, {From: 4, To: maxMinute + 1}}, 0},
	} {
		wantRefused(t, place, nil, c.spans, tock.ErrRange, c.number)
		wantRefused(t, place, jobs{{Name: "a", Fields: every}}, c.spans, tock.ErrRange, c.number)
	}
}

func TestP7TooManyJobsOrSpans(t *testing.T) {
	always := tock.Job{Name: "always", Fields: every}
	empty := tock.Span{From: 5, To: 5}
	wantRefused(t, place, slices.Repeat(jobs{always}, maxJobs+1), nil, tock.ErrRange, 0)
	wantRefused(t, place, nil, slices.Repeat(spans{empty}, maxSpans+1), tock.ErrRange, 0)
	wantRefused(t, place, slices.Repeat(jobs{always}, 100000), slices.Repeat(spans{empty}, 100000), tock.ErrRange, 0)
	wantTold(t, place, slices.Repeat(jobs{always}, maxJobs), slices.Repeat(spans{empty}, maxSpans), "")
}

// From each line on what is wrong is one thing less.
func TestP7TheErrorNamedFirst(t *testing.T) {
	long := strings.Repeat("x", 101)
	wrongJobs := jobs{{Name: "a", Fields: every}, {Name: "a", Fields: long}}
	goodJobs := wrongJobs[:1]
	wrongSpans := spans{{From: 0, To: 301}, {From: 301, To: 301}, {From: 300, To: 301}}
	goodSpans := wrongSpans[:2]
	wantRefused(t, long, make(jobs, maxJobs+1), wrongSpans, tock.ErrRange, 0)
	wantRefused(t, "x", wrongJobs, make(spans, maxSpans+1), tock.ErrRange, 0)
	wantRefused(t, long, wrongJobs, wrongSpans, tock.ErrLong, 0)
	wantRefused(t, "+01:0x", wrongJobs, wrongSpans, tock.ErrZone, 5)
	wantRefused(t, "+01:00", wrongJobs, wrongSpans, tock.ErrFields, 1)
	wantRefused(t, "+01:00", goodJobs, wrongSpans, tock.ErrRange, 2)
	wantRefused(t, "+01:00", goodJobs, goodSpans, tock.ErrMany, 0)
	wantTold(t, "+01:00", goodJobs, goodSpans[1:], "")
}

// minutesOf tells the minutes at which a job runs, from one on up to another
// one (left out).
type minutesOf func(fields string, from, to int) []int

// byMinutes goes through all minutes.
func (w wall) byMinutes(fields string, from, to int) []int {
	var all []int
	for i, runs := range w.runsIn(toldBy(fields), from, to) {
		if runs {
			all = append(all, from+i)
		}
	}
	return all
}

// byNext asks Next again and again.
func (w wall) byNext(fields string, from, to int) []int {
	var all []int
	for {
		next, e := tock.Next(w.zone, fields, from)
		if e != tock.OK || next >= to {
			return all
		}
		all = append(all, next)
		from = next + 1
	}
}

// wantAllTold holds what is told against what the jobs' minutes ask for: it
// goes from span to span, and through the minutes of all jobs, sorted.
func wantAllTold(t *testing.T, w wall, j jobs, s spans, find minutesOf) {
	t.Helper()
	var want []string
	for i, span := range s {
		for _, job := range j {
			if i > 0 && len(find(job.Fields, s[i-1].To, span.From)) > 0 {
				want = append(want, fmt.Sprintf("%d %s late", span.From, job.Name))
			}
		}
		var told [][2]int
		for n, job := range j {
			for _, minute := range find(job.Fields, span.From, span.To) {
				told = append(told, [2]int{minute, n})
			}
		}
		slices.SortFunc(told, func(a, b [2]int) int { return slices.Compare(a[:], b[:]) })
		for _, line := range told {
			want = append(want, fmt.Sprintf("%d %s", line[0], j[line[1]].Name))
		}
	}
	if len(want) > maxTold {
		wantRefused(t, w.zone, j, s, tock.ErrMany, 0)
		return
	}
	wantTold(t, w.zone, j, s, lines(want...))
}

// randomSpans are often empty or meet, as what they begin and end at is drawn
// from few minutes.
func randomSpans(source *rand.Rand, from, to int) spans {
	step := []int{1, 10, 60, 300}[source.Intn(4)]
	var ends []int
	for range 2 * source.Intn(maxSpans+1) {
		ends = append(ends, from+source.Intn(to-from)/step*step)
	}
	slices.Sort(ends)
	var all spans
	for pair := range slices.Chunk(ends, 2) {
		all = append(all, tock.Span{From: pair[0], To: pair[1]})
	}
	return all
}

func randomJobs(source *rand.Rand, fields []string) jobs {
	var all jobs
	for n := range source.Intn(maxJobs + 1) {
		name := string(rune('a'+source.Intn(26))) + string(rune('a'+n))
		all = append(all, tock.Job{Name: name, Fields: fields[source.Intn(len(fields))]})
	}
	return all
}

func TestP7AroundTurns(t *testing.T) {
	source := rand.New(rand.NewSource(7))
	fields := append(manyFields(), every)
	for _, w := range walls() {
		for _, year := range []int{1970, 2026, 2102} {
			for _, at := range w.turnsIn(year) {
				for range 20 {
					from, to := max(0, at-600), min(at+600, maxMinute+1)
					wantAllTold(t, w, randomJobs(source, fields), randomSpans(source, from, to), w.byMinutes)
				}
			}
		}
	}
}

func TestP7OverYears(t *testing.T) {
	source := rand.New(rand.NewSource(8))
	fields := []string{
		"0 0 1 1 *", "0 0 1 * *", "30 2 */28 3,10 *", "30 2 29 2 *", "0 0 30 2 *", "59 23 31 12 *", "*/30 2 25 10 0", "0 12 */30 */6 1",
	}
	for _, w := range walls() {
		for range 40 {
			from := source.Intn(maxMinute)
			to := from + 1 + source.Intn(maxMinute-from)
			wantAllTold(t, w, randomJobs(source, fields), randomSpans(source, from, to), w.byNext)
		}
	}
}

func TestP7AllHaveEnded(t *testing.T) {
	before := runtime.NumGoroutine()
	always := tock.Job{Name: "always", Fields: every}
	for range 100 {
		tock.Tell("+00:00", slices.Repeat(jobs{always}, maxJobs), spans{{From: 0, To: maxMinute}})
		tock.Tell("+00:00", jobs{always}, spans{{From: 0, To: 301}})
		tock.Tell("+00:00", jobs{always}, spans{{From: 0, To: 300}})
		tock.Tell("+00:00", nil, nil)
	}
	// One that has just answered may still be counted.
	for deadline := time.Now().Add(time.Second); runtime.NumGoroutine() > before && time.Now().Before(deadline); {
		time.Sleep(time.Millisecond)
	}
	if after := runtime.NumGoroutine(); after > before {
		t.Errorf("%d goroutines have not ended", after-before)
	}
}

// The bound is far above what it takes, and far below what going through all
// minutes would.
func TestP7NotThroughAllMinutes(t *testing.T) {
	start := time.Now()
	for range 100 {
		wantTold(t, place, slices.Repeat(jobs{nothing}, maxJobs), spans{{From: 0, To: 1}, {From: maxMinute - 1, To: maxMinute}}, "")
	}
	if took := time.Since(start); took > 20*time.Second {
		t.Errorf("100 calls took %v", took)
	}
}
