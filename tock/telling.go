package tock

import (
	"strconv"
	"strings"
)

// together puts what is told together of any number of parts.
func together(parts ...string) string { return strings.Join(parts, "") }

// padded writes a number that is not negative with at least so many digits.
func padded(n, digits int) string {
	text := strconv.Itoa(n)
	return together(strings.Repeat("0", max(0, digits-len(text))), text)
}

// tellTime tells the time that a clock shows, given as clock.shown does.
func tellTime(shown int) string {
	day := floorDiv(shown, dayMinutes)
	minute := floorMod(shown, dayMinutes)
	d := dateOf(day)
	return together(
		padded(d.year, 4), "-", padded(d.month, 2), "-", padded(d.day, 2), " ",
		padded(minute/60, 2), ":", padded(minute%60, 2), " ",
		strconv.Itoa(weekdayOf(day)),
	)
}

// tellRuns tells what comes along the channel, each run on a line. If that is
// more than may be told, it takes no more and says that it has enough.
func tellRuns(jobs []Job, runs <-chan run, enough chan<- struct{}) (string, Errno) {
	var lines []string
	for r := range runs {
		if len(lines) == maxTold {
			close(enough)
			return "", ErrMany
		}
		lines = append(lines, tellRun(r, jobs[r.job].Name))
	}
	return together(lines...), OK
}

func tellRun(r run, name string) string {
	late := ""
	if r.late {
		late = " late"
	}
	return together(strconv.Itoa(r.minute), " ", name, late, "\n")
}
