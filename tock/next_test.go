package tock_test

import (
	"testing"
	"time"

	"tock/tock"
)

func wantNext(t *testing.T, zone, fields string, minute, want int) {
	t.Helper()
	if got, e := tock.Next(zone, fields, minute); got != want || e != tock.OK {
		t.Errorf("Next(%q, %q, %d) = %d, %d, want %d", zone, fields, minute, got, e, want)
	}
}

func wantNone(t *testing.T, zone, fields string, minute int) {
	t.Helper()
	if got, e := tock.Next(zone, fields, minute); got != 0 || e != tock.ErrNone {
		t.Errorf("Next(%q, %q, %d) = %d, %d, want 0, %d", zone, fields, minute, got, e, tock.ErrNone)
	}
}

func TestP6Times(t *testing.T) {
	const utc = "+00:00"
	for _, c := range []struct{ zone, fields, from, want string }{
		// Itself, too.
		{utc, every, "2026-11-15 12:30", "2026-11-15 12:30"},
		{utc, "30 12 15 11 *", "2026-11-15 12:30", "2026-11-15 12:30"},
		{utc, "30 12 15 11 *", "2026-11-15 12:31", "2027-11-15 12:30"},
		{utc, every, "1970-01-01 00:00", "1970-01-01 00:00"},
		// The next minute, hour, day, month, year.
		{utc, "15,45 * * * *", "2026-11-15 12:16", "2026-11-15 12:45"},
		{utc, "15,45 * * * *", "2026-11-15 12:46", "2026-11-15 13:15"},
		{utc, "15,45 * * * *", "2026-12-31 23:46", "2027-01-01 00:15"},
		{utc, "15,45 8,12 * * *", "2026-11-15 12:46", "2026-11-16 08:15"},
		{utc, "15,45 8,12 * * *", "2026-11-15 08:46", "2026-11-15 12:15"},
		{utc, "0 0 1 * *", "2026-11-15 12:30", "2026-12-01 00:00"},
		{utc, "0 0 31 * *", "2026-01-31 00:01", "2026-03-31 00:00"},
		{utc, "0 0 * 1 *", "2026-11-15 12:30", "2027-01-01 00:00"},
		{utc, "59 23 31 12 *", "2026-11-15 12:30", "2026-12-31 23:59"},
		{utc, "0 0 * * 6", "2026-11-15 00:00", "2026-11-21 00:00"},
		// Days and weekdays.
		{utc, "0 0 13 * 5", "2026-11-15 12:30", "2026-11-20 00:00"},
		{utc, "0 0 13 * 5", "2026-12-12 00:00", "2026-12-13 00:00"},
		{utc, "0 0 13 * */5", "2026-11-15 12:30", "2026-12-13 00:00"},
		{utc, "0 0 */12 * 5", "2026-11-15 12:30", "2026-12-25 00:00"},
		{utc, "0 0 30 2 1", "2026-11-15 12:30", "2027-02-01 00:00"},
		// February 29, of some years alone.
		{utc, "0 0 29 2 *", "2026-11-15 12:30", "2028-02-29 00:00"},
		{utc, "0 0 29 2 *", "1996-02-29 00:01", "2000-02-29 00:00"},
		{utc, "0 0 29 2 *", "2095-01-01 00:00", "2096-02-29 00:00"},
		{utc, "0 0 29 2 */6", "2026-11-15 12:30", "2032-02-29 00:00"},
		{utc, "0 0 29 2 */99", "2032-02-29 00:01", "2060-02-29 00:00"},
		// The last minute.
		{utc, "40 2 4 2 *", "2102-02-04 02:41", "2103-02-04 02:40"},
		{utc, "40 2 4 2 0", "2103-02-04 02:40", "2103-02-04 02:40"},
		{"+14:00", "40 16 4 2 *", "2103-01-01 00:00", "2103-02-04 02:40"},
		{"-14:00", "40 12 3 2 *", "2103-01-01 00:00", "2103-02-04 02:40"},
		// The clock's days, not those of UTC.
		{"+14:00", "0 0 1 1 *", "1970-01-01 00:00", "1970-12-31 10:00"},
		{"-14:00", "0 10 31 12 *", "1970-01-01 00:00", "1970-01-01 00:00"},
		{"-14:00", "59 9 31 12 *", "1970-01-01 00:00", "1970-12-31 23:59"},
	} {
		wantNext(t, c.zone, c.fields, minuteOf(t, c.from), minuteOf(t, c.want))
	}
}

func TestP6None(t *testing.T) {
	for _, c := range []struct{ zone, fields, from string }{
		{"+00:00", "0 0 30 2 *", "1970-01-01 00:00"},
		{place, "0 0 30,31 2 *", "1970-01-01 00:00"},
		{place, "* * 31 2,4,6,9,11 *", "1970-01-01 00:00"},
		{place, "* * 30 2 */2", "1970-01-01 00:00"},
		{"+00:00", "0 0 29 2 *", "2096-02-29 00:01"},
		{"+00:00", "41 2 4 2 *", "2102-02-04 02:42"},
		{"+00:00", "39 2 4 2 *", "2103-02-04 02:40"},
		{"-14:00", "41 12 3 2 *", "2103-01-01 00:00"},
		{"+14:00", "41 16 4 2 *", "2103-01-01 00:00"},
		{"+00:00", "59 23 31 12 *", "2103-01-01 00:00"},
		// Summer would begin at the minute behind the last one, skipping 02:41.
		{"+00:00 60 2.1.0@02:41 6.1.0@03:00", "0 3 4 2 *", "2103-01-01 00:00"},
		{"+00:00 60 2.1.0@02:41 6.1.0@03:00", "41 2 4 2 *", "2103-01-01 00:00"},
		// The last minute shows again what has been shown.
		{"+00:00 60 10.1.0@02:00 2.1.0@03:40", "40 2 4 2 *", "2103-02-04 01:41"},
	} {
		wantNone(t, c.zone, c.fields, minuteOf(t, c.from))
	}
	wantNext(t, "+00:00 60 2.1.0@02:40 6.1.0@03:00", "0 3 4 2 *", maxMinute-1000, maxMinute)
	wantNext(t, "+00:00 60 10.1.0@02:00 2.1.0@03:40", "* 2 4 2 *", maxMinute, maxMinute)
}

func TestP6Turns(t *testing.T) {
	for _, c := range []struct{ fields, from, want string }{
		{"30 2 * * *", "2026-03-28 01:31", "2026-03-29 01:00"},
		{"30 2 * * *", "2026-03-29 01:00", "2026-03-29 01:00"},
		{"30 2 * * *", "2026-03-29 01:01", "2026-03-30 00:30"},
		{"10,50 2 * * *", "2026-03-29 01:01", "2026-03-30 00:10"},
		{"0 2,3 * * *", "2026-03-29 01:01", "2026-03-30 00:00"},
		{"*/30 2 * * *", "2026-03-29 00:00", "2026-03-30 00:00"},
		{"30 * * * *", "2026-03-29 00:31", "2026-03-29 01:30"},
		{"30 2 29 3 *", "2026-03-01 00:00", "2026-03-29 01:00"},
		{"* 2 29 3 *", "2026-03-01 00:00", "2027-03-29 00:00"},
		{"30 2 * * *", "2026-10-25 00:00", "2026-10-25 00:30"},
		{"30 2 * * *", "2026-10-25 00:31", "2026-10-26 01:30"},
		{"30 2 25 10 *", "2026-10-25 00:31", "2027-10-25 00:30"},
		{"*/30 2 * * *", "2026-10-25 00:31", "2026-10-25 01:00"},
		{"*/30 2 25 10 *", "2026-10-25 01:01", "2026-10-25 01:30"},
		{"*/30 2 25 10 *", "2026-10-25 01:31", "2027-10-25 00:00"},
		{"0-59 0-23 * * *", "2026-10-25 01:00", "2026-10-25 02:00"},
		{"59 2 * * *", "2026-10-25 01:00", "2026-10-26 01:59"},
	} {
		wantNext(t, place, c.fields, minuteOf(t, c.from), minuteOf(t, c.want))
	}
}

func TestP6AroundTurns(t *testing.T) {
	for _, w := range walls() {
		for _, year := range []int{1970, 2025, 2102} {
			for _, at := range w.turnsIn(year) {
				from, to := max(0, at-1500), min(at+1500, maxMinute+1)
				for _, fields := range manyFields() {
					runs := w.runsIn(toldBy(fields), from, to)
					next := -1
					for i := len(runs) - 1; i >= 0; i-- {
						if runs[i] {
							next = from + i
						}
						if next >= 0 && i%7 == 0 {
							wantNext(t, w.zone, fields, from+i, next)
						}
					}
				}
			}
		}
	}
}

// nextByDays goes day by day, and minute by minute through the days that fit.
func (w wall) nextByDays(fields string, from int) (int, bool) {
	const day = 24 * time.Hour
	f := toldBy(fields)
	for today := w.at(from).Truncate(day); !today.After(w.at(maxMinute)); today = today.Add(day) {
		if !f.fitsDay(today) {
			continue
		}
		standard := int(today.Add(-w.offset).Unix() / 60)
		first := max(from, standard-int(w.shift.Minutes()))
		for i, runs := range w.runsIn(f, first, min(standard+1440, maxMinute+1)) {
			if runs && w.at(first+i).Truncate(day).Equal(today) {
				return first + i, true
			}
		}
	}
	return 0, false
}

func TestP6FarAway(t *testing.T) {
	far := append(walls(), wall{zone: "+00:00"}, wall{zone: "-14:00", offset: -14 * time.Hour}, wall{zone: "+14:00", offset: 14 * time.Hour})
	for _, w := range far {
		for _, fields := range []string{
			"0 0 29 2 *", "59 23 29 2 */3", "30 2 29 2 */99", "0 12 30 2 *", "1 1 31 12 *", "* 2 */30 3 0", "* 2 */30 3,10,11 0",
			"5 13 */28 2 2", "*/5 14 */28 2 2", "0 23 */99 1 3", "30 22 31 */12 */6", "17 */5 5 7 *", "*/7 21 */7 6 1",
		} {
			for from := 0; from <= maxMinute; from += 9876543 {
				if want, found := w.nextByDays(fields, from); found {
					wantNext(t, w.zone, fields, from, want)
				} else {
					wantNone(t, w.zone, fields, from)
				}
			}
		}
	}
}

// The bound is far above what it takes, and far below what going through all
// minutes would.
func TestP6NotThroughAllMinutes(t *testing.T) {
	start := time.Now()
	for range 500 {
		wantNone(t, place, "0 0 30 2 *", 0)
		wantNone(t, place, "* * 31 4,6 *", 0)
	}
	if took := time.Since(start); took > 30*time.Second {
		t.Errorf("it took %v", took)
	}
}
