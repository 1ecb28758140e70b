package tock

import (
	"strconv"
	"strings"
)

// together puts what is told together of any number of parts.
func together(parts ...string) string { return strings.Join(parts, "") }

// padded writes a number that is not negative with at least so many digits.
func padded(n, digits int) string {
	text := strconv.Itoa(n)
	return together(strings.Repeat("0", max(0, digits-len(text))), text)
}

// tellTime tells the time that a clock shows, given as clock.shown does.
func tellTime(shown int) string {
	day := floorDiv(shown, dayMinutes)
	minute := floorMod(shown, dayMinutes)
	d := dateOf(day)
	return together(
		padded(d.year, 4), "-", padded(d.month, 2), "-", padded(d.day, 2), " ",
		padded(minute/60, 2), ":", padded(minute%60, 2), " ",
		strconv.Itoa(weekdayOf(day)),
	)
}
