// Package tock: jobs by the clock on the wall: see DOC.md.
package tock

// Errno is what a call answers: OK or the reason for a refusal.
type Errno int

const (
	OK        Errno = 0
	ErrLong   Errno = 1 // a text above its bound
	ErrZone   Errno = 2 // no zone
	ErrFields Errno = 3 // no fields
	ErrRange  Errno = 4 // a number out of its bounds
	ErrNone   Errno = 5 // it never runs
	ErrMany   Errno = 6 // too much to be told
)

const (
	maxText   = 100
	maxMinute = 70000000
)

// Job is a name and when it runs.
type Job struct{ Name, Fields string }

// Span is when a machine is up: from a minute on up to another one.
type Span struct{ From, To int }

// Check looks at a zone and at a job's fields (P3).
func Check(zone string, fields string) (Errno, int) {
	// Fields that are too long come ahead of whatever is wrong in the zone.
	if len(zone) > maxText || len(fields) > maxText {
		return ErrLong, 0
	}
	if _, errno, place := readClock(zone); errno != OK {
		return errno, place
	}
	return checkFields(fields)
}

// Local tells what the clock shows (P4).
func Local(zone string, minute int) (string, Errno) {
	c, errno, _ := readClock(zone)
	if errno != OK {
		return "", errno
	}
	if minute < 0 || minute > maxMinute {
		return "", ErrRange
	}
	return tellTime(c.shown(minute)), OK
}

// Runs tells whether a job runs at a minute (P5). It is not built yet.
func Runs(zone string, fields string, minute int) (bool, Errno) { return false, OK }

// Next tells the next minute at which a job runs (P6). It is not built yet.
func Next(zone string, fields string, minute int) (int, Errno) { return 0, OK }

// Tell tells what a machine runs (P7). It is not built yet.
func Tell(zone string, jobs []Job, spans []Span) (string, Errno, int) { return "", OK, 0 }
