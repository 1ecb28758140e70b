// Package tock: jobs by the clock on the wall: see DOC.md.
package tock

// Errno is what a call answers: OK or the reason for a refusal.
type Errno int

const (
	OK        Errno = 0
	ErrLong   Errno = 1 // a text above its bound
	ErrZone   Errno = 2 // no zone
	ErrFields Errno = 3 // no fields
	ErrRange  Errno = 4 // a number out of its bounds
	ErrNone   Errno = 5 // it never runs
	ErrMany   Errno = 6 // too much to be told
)

const (
	maxText   = 100
	maxMinute = 70000000
	maxJobs   = 6
	maxSpans  = 6
	maxTold   = 300
	maxName   = 10
)

// Job is a name and when it runs.
type Job struct{ Name, Fields string }

// Span is when a machine is up: from a minute on up to another one.
type Span struct{ From, To int }

// Check looks at a zone and at a job's fields (P3).
func Check(zone string, fields string) (Errno, int) {
	_, _, errno, place := read(zone, fields)
	return errno, place
}

// read reads both; with an error it tells the place, too.
func read(zone, fields string) (clock, plan, Errno, int) {
	// Fields that are too long come ahead of whatever is wrong in the zone.
	if len(fields) > maxText {
		return clock{}, plan{}, ErrLong, 0
	}
	c, errno, place := readClock(zone)
	if errno != OK {
		return clock{}, plan{}, errno, place
	}
	p, errno, place := readFields(fields)
	return c, p, errno, place
}

func inRange(minute int) bool { return 0 <= minute && minute <= maxMinute }

// Local tells what the clock shows (P4).
func Local(zone string, minute int) (string, Errno) {
	c, errno, _ := readClock(zone)
	if errno != OK {
		return "", errno
	}
	if !inRange(minute) {
		return "", ErrRange
	}
	return tellTime(c.shown(minute)), OK
}

// Runs tells whether a job runs at a minute (P5).
func Runs(zone string, fields string, minute int) (bool, Errno) {
	c, p, errno, _ := read(zone, fields)
	if errno != OK {
		return false, errno
	}
	if !inRange(minute) {
		return false, ErrRange
	}
	_, runs := c.nextRun(p, minute, minute+1)
	return runs, OK
}

// Next tells the next minute at which a job runs (P6).
func Next(zone string, fields string, minute int) (int, Errno) {
	c, p, errno, _ := read(zone, fields)
	if errno != OK {
		return 0, errno
	}
	if !inRange(minute) {
		return 0, ErrRange
	}
	next, found := c.nextRun(p, minute, maxMinute+1)
	if !found {
		return 0, ErrNone
	}
	return next, OK
}

// Tell tells what a machine runs (P7).
func Tell(zone string, jobs []Job, spans []Span) (string, Errno, int) {
	if len(jobs) > maxJobs || len(spans) > maxSpans {
		return "", ErrRange, 0
	}
	c, errno, place := readClock(zone)
	if errno != OK {
		return "", errno, place
	}
	plans, errno, number := readJobs(jobs)
	if errno != OK {
		return "", errno, number
	}
	errno, number = checkSpans(spans)
	if errno != OK {
		return "", errno, number
	}
	m := machine{clock: c, plans: plans, spans: spans}
	told, errno := m.tell(jobs)
	return told, errno, 0
}
