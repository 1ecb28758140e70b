package tock

type bounds struct{ least, most int }

// fieldBounds are those of minute, hour, day, month and weekday.
var fieldBounds = [5]bounds{{0, 59}, {0, 23}, {1, 31}, {1, 12}, {0, 6}}

// maxStep is what two digits can tell: a step may go beyond its field.
const maxStep = 99

// checkFields leaves the text's length to its caller.
func checkFields(text string) (Errno, int) {
	s := scanner{text: text}
	for i, b := range fieldBounds {
		if i > 0 {
			s.need(' ')
		}
		s.field(b)
	}
	s.needEnd()
	if s.failed {
		return ErrFields, s.fault
	}
	return OK, 0
}

func (s *scanner) field(b bounds) {
	if s.took('*') {
		s.step()
		return
	}
	s.item(b)
	for s.took(',') {
		s.item(b)
	}
}

func (s *scanner) item(b bounds) {
	first := s.number(b.least, b.most)
	if s.took('-') {
		s.number(first, b.most)
		s.step()
	}
}

func (s *scanner) step() {
	if s.took('/') {
		s.number(1, maxStep)
	}
}
