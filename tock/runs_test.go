package tock_test

import (
	"math/rand"
	"strconv"
	"strings"
	"testing"
	"time"

	"tock/tock"
)

func wantRuns(t *testing.T, zone, fields string, minute int, want bool) {
	t.Helper()
	if got, e := tock.Runs(zone, fields, minute); got != want || e != tock.OK {
		t.Errorf("Runs(%q, %q, %d) = %v, %d, want %v", zone, fields, minute, got, e, want)
	}
}

func TestP5Errors(t *testing.T) {
	for _, c := range []struct {
		zone, fields string
		minute       int
		want         tock.Errno
	}{
		{strings.Repeat("+", 101), every, 0, tock.ErrLong},
		{place, strings.Repeat("*", 101), 0, tock.ErrLong},
		{"", strings.Repeat("*", 101), -1, tock.ErrLong},
		{"", every, 0, tock.ErrZone},
		{"+01:00 60 3.5.0@02:00 3.1.0@03:00", "", -1, tock.ErrZone},
		{place, "", 0, tock.ErrFields},
		{place, "* * * *", -1, tock.ErrFields},
		{place, "* * * * 7", 70000001, tock.ErrFields},
		{place, "5-4 * * * *", 0, tock.ErrFields},
		{place, "*/0 * * * *", 0, tock.ErrFields},
		{place, every, -1, tock.ErrRange},
		{place, every, maxMinute + 1, tock.ErrRange},
	} {
		if runs, e := tock.Runs(c.zone, c.fields, c.minute); runs || e != c.want {
			t.Errorf("Runs(%.40q, %.20q, %d) = %v, %d, want %d", c.zone, c.fields, c.minute, runs, e, c.want)
		}
		if n, e := tock.Next(c.zone, c.fields, c.minute); n != 0 || e != c.want {
			t.Errorf("P6: Next(%.40q, %.20q, %d) = %d, %d, want %d", c.zone, c.fields, c.minute, n, e, c.want)
		}
	}
}

// runCase is a time in UTC at which a job runs or not.
type runCase struct {
	zone, fields, utc string
	want              bool
}

func wantCases(t *testing.T, cases []runCase) {
	t.Helper()
	for _, c := range cases {
		wantRuns(t, c.zone, c.fields, minuteOf(t, c.utc), c.want)
	}
}

func TestP5Fields(t *testing.T) {
	const utc = "+00:00"
	// 2026-11-15 is a Sunday.
	wantCases(t, []runCase{
		{utc, every, "1970-01-01 00:00", true},
		{utc, every, "2103-02-04 02:40", true},
		{utc, "40 2 4 2 0", "2103-02-04 02:40", true},
		{utc, "39 2 4 2 0", "2103-02-04 02:40", false},
		{"+01:00", "30 13 15 11 *", "2026-11-15 12:30", true},
		{"-01:00", "30 13 15 11 *", "2026-11-15 12:30", false},
		{"-14:00", "0 10 31 12 3", "1970-01-01 00:00", true},
		// The sets of a field.
		{utc, "*/7 * * * *", "2026-11-15 12:56", true},
		{utc, "*/7 * * * *", "2026-11-15 12:57", false},
		{utc, "*/99 * * * *", "2026-11-15 12:00", true},
		{utc, "*/99 * * * *", "2026-11-15 12:01", false},
		{utc, "* * */7 * *", "2026-11-15 12:00", true},
		{utc, "* * */7 * *", "2026-11-14 12:00", false},
		{utc, "* * * */5 *", "2026-11-15 12:00", true},
		{utc, "* * * */5 *", "2026-10-15 12:00", false},
		{utc, "3-58/5 * * * *", "2026-11-15 12:58", true},
		{utc, "3-57/5 * * * *", "2026-11-15 12:58", false},
		{utc, "3-58/5 * * * *", "2026-11-15 12:03", true},
		{utc, "3-58/5 * * * *", "2026-11-15 12:05", false},
		{utc, "59-59/99 23-23 * * *", "2026-11-15 23:59", true},
		{utc, "1,5-7,9-20/10 * * * *", "2026-11-15 12:01", true},
		{utc, "1,5-7,9-20/10 * * * *", "2026-11-15 12:06", true},
		{utc, "1,5-7,9-20/10 * * * *", "2026-11-15 12:19", true},
		{utc, "1,5-7,9-20/10 * * * *", "2026-11-15 12:20", false},
		// Every field counts.
		{utc, "30 12 15 11 *", "2026-11-15 12:30", true},
		{utc, "31 12 15 11 *", "2026-11-15 12:30", false},
		{utc, "30 11 15 11 *", "2026-11-15 12:30", false},
		{utc, "30 12 16 11 *", "2026-11-15 12:30", false},
		{utc, "30 12 15 10 *", "2026-11-15 12:30", false},
		{utc, "30 12 * 11 1", "2026-11-15 12:30", false},
	})
}

func TestP5DaysAndWeekdays(t *testing.T) {
	const sunday15 = "2026-11-15 12:30"
	for _, c := range []struct {
		days, weekdays string
		want           bool
	}{
		{"15", "0", true}, {"15", "1", true}, {"16", "0", true}, {"16", "1", false},
		{"1-31", "1", true}, {"16", "0-6", true},
		{"*", "0", true}, {"*", "1", false}, {"15", "*", true}, {"16", "*", false}, {"*", "*", true},
		// 15 is one of */2 and */7, not of */3; 0 is one of every */n.
		{"*/2", "0", true}, {"*/2", "1", false}, {"*/3", "0", false}, {"*/3", "1", false},
		{"15", "*/2", true}, {"16", "*/2", false}, {"*/7", "*/3", true}, {"*/3", "*/3", false},
		{"*", "*/3", true}, {"*/3", "*", false},
	} {
		fields := "30 12 " + c.days + " 11 " + c.weekdays
		wantRuns(t, "+00:00", fields, minuteOf(t, sunday15), c.want)
		// Neither helps in another month.
		wantRuns(t, "+00:00", strings.Replace(fields, " 11 ", " 1-10,12 ", 1), minuteOf(t, sunday15), false)
	}
}

func TestP5SummerBegins(t *testing.T) {
	wantCases(t, []runCase{
		{place, "30 2 * * *", "2026-03-29 01:00", true},
		{place, "30 2 * * *", "2026-03-29 00:59", false},
		{place, "30 2 * * *", "2026-03-29 01:01", false},
		{place, "30 2 * * *", "2026-03-29 01:30", false},
		// The first and the last time that are skipped, and those beside them.
		{place, "59 1 * * *", "2026-03-29 00:59", true},
		{place, "59 1 * * *", "2026-03-29 01:00", false},
		{place, "0 2 * * *", "2026-03-29 01:00", true},
		{place, "59 2 * * *", "2026-03-29 01:00", true},
		{place, "0 3 * * *", "2026-03-29 01:00", true},
		{place, "1 3 * * *", "2026-03-29 01:00", false},
		{place, "1 3 * * *", "2026-03-29 01:01", true},
		// However many fit.
		{place, "0-59 2 * * *", "2026-03-29 01:00", true},
		{place, "0-59 2 * * *", "2026-03-29 01:01", false},
		{place, "0 2,3 * * *", "2026-03-29 01:00", true},
		// Jobs that are not set.
		{place, "* 2 * * *", "2026-03-29 01:00", false},
		{place, "*/30 2 * * *", "2026-03-29 01:00", false},
		{place, "30 * * * *", "2026-03-29 01:00", false},
		{place, "30 */2 * * *", "2026-03-29 01:00", false},
		{place, "0 */3 * * *", "2026-03-29 01:00", true},
		{place, "30 0-23 * * *", "2026-03-29 01:00", true},
		{place, "0-59 2-2 * * *", "2026-03-29 01:00", true},
		// What is skipped has that day's date.
		{place, "30 2 29 3 *", "2026-03-29 01:00", true},
		{place, "30 2 * * 0", "2026-03-29 01:00", true},
		{place, "30 2 28 * 0", "2026-03-29 01:00", true},
		{place, "30 2 28 3 *", "2026-03-29 01:00", false},
		{place, "30 2 * 4 *", "2026-03-29 01:00", false},
		{place, "30 2 28 * 1", "2026-03-29 01:00", false},
		// No turn on other days, and none in a place without rules.
		{place, "30 2 * * *", "2026-03-28 01:00", false},
		{place, "30 2 * * *", "2026-03-30 00:30", true},
		{"+01:00", "30 2 * * *", "2026-03-29 01:00", false},
		{"+01:00", "30 2 * * *", "2026-03-29 01:30", true},
		// The greatest shift at the latest time skips up to 23:58.
		{"+00:00 120 12.5.4@21:59 6.1.0@03:00", "58 21 * * *", "2026-12-31 21:58", true},
		{"+00:00 120 12.5.4@21:59 6.1.0@03:00", "58 23 31 12 4", "2026-12-31 21:59", true},
		{"+00:00 120 12.5.4@21:59 6.1.0@03:00", "59 21 31 12 4", "2026-12-31 21:59", true},
		{"+00:00 120 12.5.4@21:59 6.1.0@03:00", "59 23 31 12 4", "2026-12-31 21:59", true},
		{"+00:00 120 12.5.4@21:59 6.1.0@03:00", "0 0 * * *", "2026-12-31 21:59", false},
		{"+00:00 120 12.5.4@21:59 6.1.0@03:00", "0 0 1 1 5", "2026-12-31 22:00", true},
		// The least shift.
		{"+00:00 1 3.5.0@02:00 10.5.0@03:00", "0 2 * * *", "2026-03-29 02:00", true},
		{"+00:00 1 3.5.0@02:00 10.5.0@03:00", "1 2 * * *", "2026-03-29 02:00", true},
		{"+00:00 1 3.5.0@02:00 10.5.0@03:00", "2 2 * * *", "2026-03-29 02:00", false},
		// Summer that begins at minute 0.
		{"+02:00 60 1.1.4@02:00 6.1.0@03:00", "30 2 1 1 *", "1970-01-01 00:00", true},
		{"+02:00 60 1.1.4@02:00 6.1.0@03:00", "0 3 1 1 *", "1970-01-01 00:00", true},
		{"+02:00 60 1.1.4@02:00 6.1.0@03:00", "* 2 1 1 *", "1970-01-01 00:00", false},
		// Summer that began one minute ahead of it.
		{"+02:01 60 1.1.4@02:00 6.1.0@03:00", "30 2 1 1 *", "1970-01-01 00:00", false},
		// Summer goes on over the year's end: it doesn't begin there.
		{"+00:00 60 10.1.0@02:00 3.1.0@03:00", "30 0 1 1 *", "2026-01-01 00:00", false},
		{"+00:00 60 10.1.0@02:00 3.1.0@03:00", "30 2 4 10 *", "2026-10-04 02:00", true},
	})
}

func TestP5SummerEnds(t *testing.T) {
	const toYearsBegin = "+00:00 120 10.1.0@02:00 1.1.4@02:00"
	wantCases(t, []runCase{
		{place, "30 2 * * *", "2026-10-25 00:30", true},
		{place, "30 2 * * *", "2026-10-25 01:30", false},
		{place, "30 2 25 10 0", "2026-10-25 01:30", false},
		// The first and the last time shown twice, and those beside them.
		{place, "59 1 * * *", "2026-10-24 23:59", true},
		{place, "0 2 * * *", "2026-10-25 00:00", true},
		{place, "0 2 * * *", "2026-10-25 01:00", false},
		{place, "59 2 * * *", "2026-10-25 00:59", true},
		{place, "59 2 * * *", "2026-10-25 01:59", false},
		{place, "0 3 * * *", "2026-10-25 01:00", false},
		{place, "0 3 * * *", "2026-10-25 02:00", true},
		// Jobs that are not set run at both.
		{place, "*/30 * * * *", "2026-10-25 00:30", true},
		{place, "*/30 * * * *", "2026-10-25 01:30", true},
		{place, "*/30 2 * * *", "2026-10-25 01:30", true},
		{place, "30 * * * *", "2026-10-25 01:30", true},
		{place, "30 */2 * * *", "2026-10-25 01:30", true},
		{place, "0-59 0-23 * * *", "2026-10-25 00:30", true},
		{place, "0-59 0-23 * * *", "2026-10-25 01:30", false},
		{place, "0-59 0-23 * * *", "2026-10-25 02:00", true},
		// Other days, and a place without rules.
		{place, "30 2 * * *", "2026-10-24 00:30", true},
		{place, "30 2 * * *", "2026-10-26 01:30", true},
		{"+01:00", "30 2 * * *", "2026-10-25 01:30", true},
		{"+02:00", "30 2 * * *", "2026-10-25 00:30", true},
		// The year's first two hours, shown twice: first in the standard clock's old year.
		{toYearsBegin, "59 23 31 12 *", "2025-12-31 21:59", true},
		{toYearsBegin, "0 0 1 1 *", "2025-12-31 22:00", true},
		{toYearsBegin, "59 1 1 1 *", "2025-12-31 23:59", true},
		{toYearsBegin, "0 0 1 1 *", "2026-01-01 00:00", false},
		{toYearsBegin, "* 0 1 1 *", "2026-01-01 00:00", true},
		{toYearsBegin, "59 1 1 1 *", "2026-01-01 01:59", false},
		{toYearsBegin, "0 2 1 1 *", "2026-01-01 02:00", true},
		// Minute 0 shows again what it has shown ahead of 1970.
		{toYearsBegin, "0 0 1 1 *", "1970-01-01 00:00", false},
		{toYearsBegin, "* 0 1 1 *", "1970-01-01 00:00", true},
		{toYearsBegin, "0 2 1 1 *", "1970-01-01 02:00", true},
		// The shortest summer: its first minute, its end, what is shown twice.
		{"+00:00 120 2.5.6@21:59 3.1.0@02:00", "59 23 28 2 *", "2026-02-28 21:59", true},
		{"+00:00 120 2.5.6@21:59 3.1.0@02:00", "0 0 1 3 *", "2026-02-28 22:00", true},
		{"+00:00 120 2.5.6@21:59 3.1.0@02:00", "0 0 1 3 *", "2026-03-01 00:00", false},
		{"+00:00 120 2.5.6@21:59 3.1.0@02:00", "59 1 1 3 *", "2026-03-01 01:59", false},
		{"+00:00 120 2.5.6@21:59 3.1.0@02:00", "0 2 1 3 *", "2026-03-01 02:00", true},
	})
}

// What follows tells in a second way when a job runs: minute by minute, by the
// document's words, with the library's calendar.

type fieldsTold struct {
	sets    [5]map[int]bool
	starred [5]bool
}

func toldBy(fields string) fieldsTold {
	var f fieldsTold
	for i, field := range strings.Split(fields, " ") {
		f.sets[i] = map[int]bool{}
		f.starred[i] = field[0] == '*'
		field = strings.Replace(field, "*", []string{"0-59", "0-23", "1-31", "1-12", "0-6"}[i], 1)
		for item := range strings.SplitSeq(field, ",") {
			span, step, _ := strings.Cut(item, "/")
			a, b, two := strings.Cut(span, "-")
			if !two {
				b = a
			}
			for n := numberOf(a, 0); n <= numberOf(b, 0); n += numberOf(step, 1) {
				f.sets[i][n] = true
			}
		}
	}
	return f
}

func numberOf(text string, otherwise int) int {
	if n, err := strconv.Atoi(text); err == nil {
		return n
	}
	return otherwise
}

func (f fieldsTold) isSet() bool { return !f.starred[0] && !f.starred[1] }

func (f fieldsTold) fitsDay(at time.Time) bool {
	day, weekday := f.sets[2][at.Day()], f.sets[4][int(at.Weekday())]
	if f.starred[2] || f.starred[4] {
		return f.sets[3][int(at.Month())] && day && weekday
	}
	return f.sets[3][int(at.Month())] && (day || weekday)
}

func (f fieldsTold) fits(at time.Time) bool {
	return f.sets[0][at.Minute()] && f.sets[1][at.Hour()] && f.fitsDay(at)
}

// runsIn tells for each minute from one on, up to another one (left out),
// whether a job runs.
func (w wall) runsIn(f fieldsTold, from, to int) []bool {
	var all []bool
	seen := map[time.Time]bool{}
	before := w.at(from - 201)
	for minute := from - 200; minute < to; minute++ {
		now := w.at(minute)
		runs := f.fits(now)
		if f.isSet() {
			runs = runs && !seen[now]
			for skipped := before.Add(time.Minute); skipped.Before(now); skipped = skipped.Add(time.Minute) {
				runs = runs || f.fits(skipped)
			}
		}
		if minute >= from {
			all = append(all, runs)
		}
		seen[now], before = true, now
	}
	return all
}

// manyFields are jobs that run now and then within a day, of every kind.
func manyFields() []string {
	all := []string{
		"*/30 * * * *", "30 2 * * *", "0-59 0-23 * * *", "0,59 0-23 * * *", "7 */2 * * *", "* 2,3,20 * * *",
		"58,59,0,1 21-23,0-2 * * *", "0-59/13 0-23/3 1-31/2 * 0-6/2", "5 4 */2 * 0-6/2", "*/11 1-22 1-31/3 * */2",
		"0-59 0-23 28-31,1 1,12,2,3 *", "9 9 * 6-7 *", "20-40 18-20 * * 1,5",
	}
	source := rand.New(rand.NewSource(5))
	for range 12 {
		all = append(all, randomFields(source))
	}
	return all
}

func randomFields(source *rand.Rand) string {
	var fields []string
	for i, least := range []int{0, 0, 1, 1, 0} {
		most := []int{59, 23, 31, 12, 6}[i]
		number := func(least int) int { return least + source.Intn(most-least+1) }
		var items []string
		for range 1 + source.Intn(3) {
			a := number(least)
			item := strconv.Itoa(a)
			if source.Intn(2) == 0 {
				item += "-" + strconv.Itoa(number(a))
				if source.Intn(2) == 0 {
					item += "/" + strconv.Itoa(1+source.Intn(9))
				}
			}
			items = append(items, item)
		}
		field := strings.Join(items, ",")
		switch source.Intn(4) {
		case 0:
			field = "*"
		case 1:
			field = "*/" + strconv.Itoa(1+source.Intn(9))
		}
		fields = append(fields, field)
	}
	return strings.Join(fields, " ")
}

func TestP5AroundTurns(t *testing.T) {
	for _, w := range walls() {
		for _, year := range []int{1970, 2026, 2102} {
			for _, at := range w.turnsIn(year) {
				from, to := max(0, at-500), min(at+500, maxMinute+1)
				for _, fields := range manyFields() {
					for i, want := range w.runsIn(toldBy(fields), from, to) {
						wantRuns(t, w.zone, fields, from+i, want)
					}
				}
			}
		}
	}
}
