package tock

// What stands here goes by the time that a clock shows, given as clock.shown
// does. When it shows that, and how often, is the clock's to tell.

// set tells whether the job is set to times of the day.
func (p plan) set() bool { return !p.minute.starred && !p.hour.starred }

func (p plan) fitsDay(day, weekday int) bool {
	byDay, byWeekday := p.day.has(day), p.weekday.has(weekday)
	if !p.day.starred && !p.weekday.starred {
		return byDay || byWeekday
	}
	return byDay && byWeekday
}

// next tells the first time from one on, up to another one (left out), that
// fits.
func (p plan) next(from, to int) (int, bool) {
	end := floorDiv(to-1, dayMinutes) + 1
	day, found := p.nextDay(floorDiv(from, dayMinutes), end)
	for found {
		if time, left := p.timeFrom(max(0, from-day*dayMinutes)); left {
			at := day*dayMinutes + time
			return at, at < to
		}
		day, found = p.nextDay(day+1, end)
	}
	return 0, false
}

// nextDay tells the first day from one on, up to another one (left out), that
// fits.
func (p plan) nextDay(from, to int) (int, bool) {
	day := from
months:
	for day < to {
		d := dateOf(day)
		first := day - d.day + 1
		over := first + monthLength(d.year, d.month)
		if !p.month.has(d.month) {
			day = over
			continue
		}
		for ; day < to; day++ {
			if day == over {
				continue months
			}
			if p.fitsDay(day-first+1, weekdayOf(day)) {
				return day, true
			}
		}
	}
	return 0, false
}

// timeFrom tells the first time of a day from one on that fits.
func (p plan) timeFrom(time int) (int, bool) {
	hour, minute := time/60, time%60
	if p.hour.has(hour) {
		if m, left := p.minute.from(minute); left {
			return hour*60 + m, true
		}
	}
	hour, left := p.hour.from(hour + 1)
	minute, _ = p.minute.from(0)
	return hour*60 + minute, left
}
