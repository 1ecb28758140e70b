package tock_test

import (
	"strings"
	"testing"
	"time"

	"tock/tock"
)

const (
	maxMinute = 70000000
	layout    = "2006-01-02 15:04"
)

// minuteOf tells the minute of a time in UTC.
func minuteOf(t *testing.T, utc string) int {
	t.Helper()
	at, err := time.Parse(layout, utc)
	if err != nil {
		t.Fatal(err)
	}
	return int(at.Unix() / 60)
}

func wantLocal(t *testing.T, zone string, minute int, want string) {
	t.Helper()
	if got, e := tock.Local(zone, minute); got != want || e != tock.OK {
		t.Errorf("Local(%q, %d) = %q, %d, want %q", zone, minute, got, e, want)
	}
}

func TestP4Examples(t *testing.T) {
	wantLocal(t, place, 0, "1970-01-01 01:00 4")
	wantLocal(t, place, 29579099, "2026-03-29 01:59 0")
	wantLocal(t, place, 29579100, "2026-03-29 03:00 0")
	wantLocal(t, place, minuteOf(t, "2026-10-25 00:59"), "2026-10-25 02:59 0")
	wantLocal(t, place, minuteOf(t, "2026-10-25 01:00"), "2026-10-25 02:00 0")
	wantLocal(t, place, minuteOf(t, "2026-10-25 02:00"), "2026-10-25 03:00 0")
}

func TestP4Errors(t *testing.T) {
	for _, c := range []struct {
		zone   string
		minute int
		want   tock.Errno
	}{
		{strings.Repeat("+", 101), 0, tock.ErrLong},
		{strings.Repeat("+", 100), 0, tock.ErrZone},
		{"", 0, tock.ErrZone},
		{"+14:01", 0, tock.ErrZone},
		{"+01:00 60 3.5.0@02:00 3.1.0@03:00", 0, tock.ErrZone},
		{place, -1, tock.ErrRange},
		{"+14:00", -1, tock.ErrRange},
		{place, maxMinute + 1, tock.ErrRange},
		{"-14:00", maxMinute + 1, tock.ErrRange},
	} {
		if s, e := tock.Local(c.zone, c.minute); s != "" || e != c.want {
			t.Errorf("Local(%.40q, %d) = %q, %d, want %d", c.zone, c.minute, s, e, c.want)
		}
	}
}

func TestP4Edges(t *testing.T) {
	for _, c := range []struct{ zone, utc, want string }{
		{"-14:00", "1970-01-01 00:00", "1969-12-31 10:00 3"},
		{"+14:00", "1970-01-01 00:00", "1970-01-01 14:00 4"},
		{"-00:01", "1970-01-01 00:00", "1969-12-31 23:59 3"},
		{"-00:01", "1970-01-01 00:01", "1970-01-01 00:00 4"},
		{"+00:00", "2103-02-04 02:40", "2103-02-04 02:40 0"},
		{"+14:00", "2103-02-04 02:40", "2103-02-04 16:40 0"},
		{"+00:00", "2000-02-29 12:00", "2000-02-29 12:00 2"},
		{"+00:00", "2100-02-28 23:59", "2100-02-28 23:59 0"},
		{"+00:00", "2100-03-01 00:00", "2100-03-01 00:00 1"},
		// Summer over the year's end, which 1969 has, too.
		{"-14:00 60 10.1.0@02:00 3.1.0@03:00", "1970-01-01 00:00", "1969-12-31 11:00 3"},
		{"+00:00 120 10.1.0@02:00 3.1.0@03:00", "2025-12-31 21:59", "2025-12-31 23:59 3"},
		{"+00:00 120 10.1.0@02:00 3.1.0@03:00", "2025-12-31 22:00", "2026-01-01 00:00 4"},
		{"+00:00 120 10.1.0@02:00 3.1.0@03:00", "2026-01-01 00:00", "2026-01-01 02:00 4"},
		{"+00:00 120 10.1.0@02:00 3.1.0@03:00", "2026-03-01 00:59", "2026-03-01 02:59 0"},
		{"+00:00 120 10.1.0@02:00 3.1.0@03:00", "2026-03-01 01:00", "2026-03-01 01:00 0"},
		// Summer that ends as the standard clock's year begins.
		{"+00:00 120 10.1.0@02:00 1.1.4@02:00", "2025-12-31 23:59", "2026-01-01 01:59 4"},
		{"+00:00 120 10.1.0@02:00 1.1.4@02:00", "2026-01-01 00:00", "2026-01-01 00:00 4"},
		// Rules go by the standard clock's year, not by UTC's.
		{"+14:00 60 1.1.4@02:00 6.1.0@03:00", "2025-12-31 11:59", "2026-01-01 01:59 4"},
		{"+14:00 60 1.1.4@02:00 6.1.0@03:00", "2025-12-31 12:00", "2026-01-01 03:00 4"},
		{"-14:00 60 12.5.3@21:59 6.1.0@03:00", "2026-01-01 11:58", "2025-12-31 21:58 3"},
		{"-14:00 60 12.5.3@21:59 6.1.0@03:00", "2026-01-01 11:59", "2025-12-31 22:59 3"},
		// The weeks of August 2026, which begins on a Saturday.
		{"+00:00 30 8.1.6@12:00 11.1.0@03:00", "2026-08-01 12:00", "2026-08-01 12:30 6"},
		{"+00:00 30 8.1.5@12:00 11.1.0@03:00", "2026-08-07 12:00", "2026-08-07 12:30 5"},
		{"+00:00 30 8.2.6@12:00 11.1.0@03:00", "2026-08-08 11:59", "2026-08-08 11:59 6"},
		{"+00:00 30 8.4.5@12:00 11.1.0@03:00", "2026-08-28 11:59", "2026-08-28 11:59 5"},
		{"+00:00 30 8.4.5@12:00 11.1.0@03:00", "2026-08-28 12:00", "2026-08-28 12:30 5"},
		{"+00:00 30 8.4.6@12:00 11.1.0@03:00", "2026-08-22 12:00", "2026-08-22 12:30 6"},
		{"+00:00 30 8.5.6@12:00 11.1.0@03:00", "2026-08-29 11:59", "2026-08-29 11:59 6"},
		{"+00:00 30 8.5.5@12:00 11.1.0@03:00", "2026-08-28 12:00", "2026-08-28 12:30 5"},
		{"+00:00 30 8.5.1@12:00 11.1.0@03:00", "2026-08-31 12:00", "2026-08-31 12:30 1"},
		{"+00:00 30 2.5.4@12:00 11.1.0@03:00", "2024-02-29 12:00", "2024-02-29 12:30 4"},
	} {
		wantLocal(t, c.zone, minuteOf(t, c.utc), c.want)
	}
}

// turn is a rule, held as the library's calendar wants it.
type turn struct {
	month          time.Month
	week           int
	weekday        time.Weekday
	hours, minutes int
	inUse          time.Duration // what the clock ahead of it adds
}

// in goes through the month's days and answers the standard clock's time.
func (r turn) in(year int) time.Time {
	var days []time.Time
	for d := time.Date(year, r.month, 1, r.hours, r.minutes, 0, 0, time.UTC); d.Month() == r.month; d = d.AddDate(0, 0, 1) {
		if d.Weekday() == r.weekday {
			days = append(days, d)
		}
	}
	day := days[len(days)-1]
	if r.week < 5 {
		day = days[r.week-1]
	}
	return day.Add(-r.inUse)
}

type wall struct {
	zone          string
	offset, shift time.Duration
	begin, end    turn
	known         map[int][2]time.Time // the turns of years that were asked for
}

func walls() []wall {
	hour := time.Hour
	all := []wall{
		{place, hour, hour, turn{3, 5, 0, 2, 0, 0}, turn{10, 5, 0, 3, 0, hour}, nil},
		{"-05:00 60 3.2.0@02:00 11.1.0@02:00", -5 * hour, hour, turn{3, 2, 0, 2, 0, 0}, turn{11, 1, 0, 2, 0, hour}, nil},
		{"+10:30 30 10.1.0@02:00 4.1.0@02:00", 10*hour + hour/2, hour / 2, turn{10, 1, 0, 2, 0, 0}, turn{4, 1, 0, 2, 0, hour / 2}, nil},
		{"-14:00 120 12.5.6@21:59 1.1.1@02:00", -14 * hour, 2 * hour, turn{12, 5, 6, 21, 59, 0}, turn{1, 1, 1, 2, 0, 2 * hour}, nil},
		{"+14:00 1 1.1.3@02:00 12.5.4@21:59", 14 * hour, time.Minute, turn{1, 1, 3, 2, 0, 0}, turn{12, 5, 4, 21, 59, time.Minute}, nil},
		{"+00:00 119 2.5.2@13:07 3.1.2@02:00", 0, 119 * time.Minute, turn{2, 5, 2, 13, 7, 0}, turn{3, 1, 2, 2, 0, 119 * time.Minute}, nil},
		{"-03:30 45 7.3.5@09:09 6.4.1@20:20", -3*hour - hour/2, 45 * time.Minute, turn{7, 3, 5, 9, 9, 0}, turn{6, 4, 1, 20, 20, 45 * time.Minute}, nil},
	}
	for i := range all {
		all[i].known = map[int][2]time.Time{}
	}
	return all
}

// turnsOf tells the standard clock's times of summer's begin and end.
func (w wall) turnsOf(year int) (begin, end time.Time) {
	if _, ok := w.known[year]; !ok {
		w.known[year] = [2]time.Time{w.begin.in(year), w.end.in(year)}
	}
	return w.known[year][0], w.known[year][1]
}

// at tells the clock's time, as if it were UTC.
func (w wall) at(minute int) time.Time {
	standard := time.Unix(int64(minute)*60, 0).UTC().Add(w.offset)
	if w.shift == 0 {
		return standard
	}
	begin, end := w.turnsOf(standard.Year())
	summer := !standard.Before(begin) && standard.Before(end)
	if w.begin.month > w.end.month {
		summer = standard.Before(end) || !standard.Before(begin)
	}
	if summer {
		return standard.Add(w.shift)
	}
	return standard
}

func (w wall) shows(minute int) string {
	at := w.at(minute)
	return at.Format(layout) + " " + string(rune('0'+at.Weekday()))
}

// turnsIn tells the minutes at which the clock is turned in a year.
func (w wall) turnsIn(year int) []int {
	begin, end := w.turnsOf(year)
	return []int{int(begin.Add(-w.offset).Unix() / 60), int(end.Add(-w.offset).Unix() / 60)}
}

func TestP4AllYears(t *testing.T) {
	for _, w := range walls() {
		for minute := 0; minute <= maxMinute; minute += 9973 {
			wantLocal(t, w.zone, minute, w.shows(minute))
		}
		wantLocal(t, w.zone, maxMinute, w.shows(maxMinute))
	}
}

func TestP4AllTurns(t *testing.T) {
	for _, w := range walls() {
		for year := 1970; year <= 2103; year++ {
			for _, at := range w.turnsIn(year) {
				for minute := max(0, at-2); minute <= min(at+2, maxMinute); minute++ {
					wantLocal(t, w.zone, minute, w.shows(minute))
				}
			}
		}
	}
}
