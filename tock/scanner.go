package tock

import "strconv"

// scanner goes through a text from the left. The first fault that it meets
// stays, and nothing is taken after it: so whoever reads a whole zone or whole
// fields asks for a fault once, at the end.
type scanner struct {
	text   string
	at     int
	failed bool
	fault  int // the first fault's place, once failed
}

func (s *scanner) fail(place int) {
	if !s.failed {
		s.failed, s.fault = true, place
	}
}

func (s *scanner) took(c byte) bool {
	if s.failed || s.at == len(s.text) || s.text[s.at] != c {
		return false
	}
	s.at++
	return true
}

// need fails at the text's length if the text ends too early, for that is
// where the scanner stands then.
func (s *scanner) need(c byte) {
	if !s.took(c) {
		s.fail(s.at)
	}
}

func (s *scanner) needEnd() {
	if s.at < len(s.text) {
		s.fail(s.at)
	}
}

func (s *scanner) atDigit() bool {
	return !s.failed && s.at < len(s.text) && '0' <= s.text[s.at] && s.text[s.at] <= '9'
}

func (s *scanner) digit() int {
	if !s.atDigit() {
		s.fail(s.at)
		return 0
	}
	s.at++
	return int(s.text[s.at-1] - '0')
}

func (s *scanner) twoDigits() int {
	tens := s.digit()
	return 10*tens + s.digit()
}

// number takes all digits that stand here, even more than there may be:
// whatever is wrong with them is a fault of the first one. They need not be
// counted: without needless zeros too many of them are above any bound. After
// a fault it answers the least one, so that its caller can go on with it.
func (s *scanner) number(least, most int) int {
	start := s.at
	for s.atDigit() {
		s.at++
	}
	run := s.text[start:s.at]
	n, err := strconv.Atoi(run)
	if err != nil || len(run) > 1 && run[0] == '0' || n < least || n > most {
		s.fail(start)
		return least
	}
	return n
}

// hoursMinutes takes hh:mm and answers it in minutes. If it is out of its
// bounds that is a fault at place, which the caller knows better.
func (s *scanner) hoursMinutes(place, least, most int) int {
	hours := s.twoDigits()
	s.need(':')
	minutes := s.twoDigits()
	total := hours*60 + minutes
	if minutes > 59 || total < least || total > most {
		s.fail(place)
		return 0
	}
	return total
}
