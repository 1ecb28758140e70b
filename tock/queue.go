package tock

// run is a job's run at a minute; a late one makes up for what was missed.
type run struct {
	minute, job int
	late        bool
}

// before tells whether a run is told ahead of another one.
func (r run) before(other run) bool {
	if r.minute != other.minute {
		return r.minute < other.minute
	}
	if r.late != other.late {
		return r.late
	}
	return r.job < other.job
}

// queue is a heap: what stands at n is not behind what stands at 2n+1 and
// 2n+2, so the run that is next stands at 0.
type queue []run

func (q *queue) push(r run) {
	*q = append(*q, r)
	q.rise(len(*q) - 1)
}

// pop takes out the run that is next. There must be one.
func (q *queue) pop() run {
	next, last := (*q)[0], len(*q)-1
	(*q)[0] = (*q)[last]
	*q = (*q)[:last]
	q.sink(0)
	return next
}

func (q queue) rise(at int) {
	for at > 0 {
		above := (at - 1) / 2
		if !q[at].before(q[above]) {
			return
		}
		q[at], q[above] = q[above], q[at]
		at = above
	}
}

func (q queue) sink(at int) {
	for {
		next := at
		for under := 2*at + 1; under <= 2*at+2 && under < len(q); under++ {
			if q[under].before(q[next]) {
				next = under
			}
		}
		if next == at {
			return
		}
		q[at], q[next] = q[next], q[at]
		at = next
	}
}
