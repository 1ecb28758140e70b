package tock

type bounds struct{ least, most int }

// fieldBounds are those of minute, hour, day, month and weekday.
var fieldBounds = [5]bounds{{0, 59}, {0, 23}, {1, 31}, {1, 12}, {0, 6}}

// maxStep is what two digits can tell: a step may go beyond its field.
const maxStep = 99

// field is the set that a field tells. Whether the field begins with `*`
// matters even where the set is the same.
type field struct {
	numbers
	starred bool
}

// plan is what a job's fields tell.
type plan struct{ minute, hour, day, month, weekday field }

// readFields reads a job's fields; with an error it tells the place, too. It
// leaves the text's length to its caller.
func readFields(text string) (plan, Errno, int) {
	s := scanner{text: text}
	var f [len(fieldBounds)]field
	for i, b := range fieldBounds {
		if i > 0 {
			s.need(' ')
		}
		f[i] = s.field(b)
	}
	s.needEnd()
	if s.failed {
		return plan{}, ErrFields, s.fault
	}
	return plan{f[0], f[1], f[2], f[3], f[4]}, OK, 0
}

func (s *scanner) field(b bounds) field {
	if s.took('*') {
		return field{eachOf(b.least, b.most, s.step()), true}
	}
	all := s.item(b)
	for s.took(',') {
		all |= s.item(b)
	}
	return field{all, false}
}

func (s *scanner) item(b bounds) numbers {
	first := s.number(b.least, b.most)
	if !s.took('-') {
		return eachOf(first, first, 1)
	}
	last := s.number(first, b.most)
	return eachOf(first, last, s.step())
}

func (s *scanner) step() int {
	if !s.took('/') {
		return 1
	}
	return s.number(1, maxStep)
}
