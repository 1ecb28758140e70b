package tock

// nextRun tells the first minute from one on, up to another one (left out), at
// which a job runs.
func (c clock) nextRun(p plan, from, to int) (int, bool) {
	at, end := from+c.offset, to+c.offset
	for at < end {
		s := c.stretchAt(at)
		if found, ok := c.nextIn(s, p, at, min(end, s.to)); ok {
			return found - c.offset, true
		}
		at = s.to
	}
	return 0, false
}

// nextIn does that for the standard clock's minutes, within one stretch.
func (c clock) nextIn(s stretch, p plan, from, to int) (int, bool) {
	if p.set() && s.summer() && from == s.from {
		if _, skipped := p.next(from, from+c.shift); skipped {
			return from, true
		}
	}
	if p.set() && !s.summer() {
		// Up to there the clock shows what it has shown in summer.
		from = max(from, s.from+c.shift)
	}
	found, ok := p.next(from+s.ahead, to+s.ahead)
	return found - s.ahead, ok
}
