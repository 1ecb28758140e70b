package tock

// Days are counted from the beginning of 1970, a Thursday. Zones west of UTC
// show the day ahead of it, too: so days may be negative.

type date struct{ year, month, day int }

var monthLengths = [12]int{31, 28, 31, 30, 31, 30, 31, 31, 30, 31, 30, 31}

func floorDiv(n, by int) int { return (n - floorMod(n, by)) / by }

func floorMod(n, by int) int { return (n%by + by) % by }

func isLeap(year int) bool {
	return year%4 == 0 && year%100 != 0 || year%400 == 0
}

func monthLength(year, month int) int {
	if month == 2 && isLeap(year) {
		return 29
	}
	return monthLengths[month-1]
}

func weekdayOf(day int) int { return floorMod(day+4, 7) }

func leapsAhead(year int) int {
	return floorDiv(year-1, 4) - floorDiv(year-1, 100) + floorDiv(year-1, 400)
}

func firstDay(year int) int {
	return 365*(year-1970) + leapsAhead(year) - leapsAhead(1970)
}

func yearOf(day int) int {
	// 400 years have 146097 days, so the guess is off by one year at most.
	year := 1970 + floorDiv(day*400, 146097)
	for firstDay(year) > day {
		year--
	}
	for firstDay(year+1) <= day {
		year++
	}
	return year
}

func dayOf(d date) int {
	day := firstDay(d.year)
	for month := 1; month < d.month; month++ {
		day += monthLength(d.year, month)
	}
	return day + d.day - 1
}

func dateOf(day int) date {
	year := yearOf(day)
	rest := day - firstDay(year)
	month := 1
	for rest >= monthLength(year, month) {
		rest -= monthLength(year, month)
		month++
	}
	return date{year, month, rest + 1}
}
