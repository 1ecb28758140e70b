package tock

const (
	dayMinutes = 1440
	lastWeek   = 5

	maxShift  = 120
	maxOffset = 14 * 60
	// A rule's bounds keep both of its turn's ends within one day, whatever
	// the shift: so what the clock skips or shows twice has one date. They
	// keep any two turns further apart than the shift, too.
	leastRuleTime = 2 * 60
	mostRuleTime  = 21*60 + 59
)

// clock is what a zone tells. Its shift is 0 if it has no rules.
type clock struct {
	offset, shift int
	begin, end    rule
}

// rule is when summer begins or ends: its time is in minutes, of the clock
// that is in use ahead of it.
type rule struct{ month, week, weekday, time int }

// readClock reads a zone; with an error it tells the place, too.
func readClock(zone string) (clock, Errno, int) {
	if len(zone) > maxText {
		return clock{}, ErrLong, 0
	}
	s := scanner{text: zone}
	c := clock{offset: s.offset()}
	if s.at < len(zone) {
		s.rules(&c)
	}
	if s.failed {
		return clock{}, ErrZone, s.fault
	}
	return c, OK, 0
}

func (s *scanner) offset() int {
	start := s.at
	behind := s.took('-')
	if !behind {
		s.need('+')
	}
	minutes := s.hoursMinutes(start, 0, maxOffset)
	if behind {
		return -minutes
	}
	return minutes
}

func (s *scanner) rules(c *clock) {
	s.need(' ')
	c.shift = s.number(1, maxShift)
	s.need(' ')
	c.begin = s.rule()
	s.need(' ')
	second := s.at
	c.end = s.rule()
	// That both have one month counts only if nothing else is wrong, even
	// behind them.
	s.needEnd()
	if c.begin.month == c.end.month {
		s.fail(second)
	}
}

func (s *scanner) rule() rule {
	var r rule
	r.month = s.number(1, 12)
	s.need('.')
	r.week = s.number(1, lastWeek)
	s.need('.')
	r.weekday = s.number(0, 6)
	s.need('@')
	r.time = s.hoursMinutes(s.at, leastRuleTime, mostRuleTime)
	return r
}

// day tells on which day of a year the rule falls.
func (r rule) day(year int) int {
	first := dayOf(date{year, r.month, 1})
	if r.week == lastWeek {
		last := first + monthLength(year, r.month) - 1
		return last - floorMod(weekdayOf(last)-r.weekday, 7)
	}
	return first + floorMod(r.weekday-weekdayOf(first), 7) + 7*(r.week-1)
}

func (r rule) minute(year int) int { return r.day(year)*dayMinutes + r.time }

// stretch is a time between two turns of the clock, by the standard clock: to
// is left out. In it the clock is ahead of the standard clock by one number.
type stretch struct{ from, to, ahead int }

func (s stretch) summer() bool { return s.ahead > 0 }

// turns tells when the clock is turned in a year, by the standard clock.
func (c clock) turns(year int) (first, second int) {
	begin := c.begin.minute(year)
	// The clock in use ahead of summer's end is the shifted one.
	end := c.end.minute(year) - c.shift
	return min(begin, end), max(begin, end)
}

// stretchAt tells in which stretch a minute of the standard clock lies.
func (c clock) stretchAt(standard int) stretch {
	if c.shift == 0 {
		return stretch{-maxOffset, maxMinute + maxOffset + 1, 0}
	}
	between, around := c.shift, 0
	if c.begin.month > c.end.month {
		between, around = around, between
	}
	year := yearOf(floorDiv(standard, dayMinutes))
	first, second := c.turns(year)
	switch {
	case standard < first:
		_, before := c.turns(year - 1)
		return stretch{before, first, around}
	case standard < second:
		return stretch{first, second, between}
	default:
		after, _ := c.turns(year + 1)
		return stretch{second, after, around}
	}
}

// shown tells the clock's time at a minute, as minutes since the clock itself
// would have shown the beginning of 1970.
func (c clock) shown(minute int) int {
	standard := minute + c.offset
	return standard + c.stretchAt(standard).ahead
}
