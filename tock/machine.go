package tock

import "sync"

// readJobs reads the jobs' fields; with an error it tells the job's number, too.
func readJobs(jobs []Job) ([]plan, Errno, int) {
	var plans []plan
	for number, job := range jobs {
		if !isName(job.Name) || len(job.Fields) > maxText {
			return nil, ErrFields, number
		}
		p, errno, _ := readFields(job.Fields)
		if errno != OK {
			return nil, errno, number
		}
		plans = append(plans, p)
	}
	return plans, OK, 0
}

func isName(text string) bool {
	if len(text) == 0 || len(text) > maxName {
		return false
	}
	for _, letter := range []byte(text) {
		if letter < 'a' || letter > 'z' {
			return false
		}
	}
	return true
}

// checkSpans looks at the spans; with an error it tells the span's number, too.
func checkSpans(spans []Span) (Errno, int) {
	least := 0
	for number, s := range spans {
		if s.From < least || s.To < s.From || s.To > maxMinute {
			return ErrRange, number
		}
		least = s.To
	}
	return OK, 0
}

// machine runs jobs while it is up. Of each job that runs once more, its queue
// holds the next run.
type machine struct {
	clock clock
	plans []plan
	spans []Span
	queue queue
}

// tell tells what the machine runs. Its work has ended when that answers.
func (m *machine) tell(jobs []Job) (string, Errno) {
	runs, enough := make(chan run), make(chan struct{})
	var worker sync.WaitGroup
	worker.Go(func() { m.work(runs, enough) })
	defer worker.Wait()
	return tellRuns(jobs, runs, enough)
}

// work sends what the machine runs, and closes the channel at the end: of the
// last span, or as soon as there is enough.
func (m *machine) work(runs chan<- run, enough <-chan struct{}) {
	defer close(runs)
	if len(m.spans) == 0 {
		return
	}
	for job := range m.plans {
		m.await(job, m.spans[0].From)
	}
	for _, span := range m.spans {
		m.catchUp(span.From)
		for m.hasRunIn(span) {
			r := m.queue.pop()
			// Whoever has enough takes no more: so only one can be ready.
			select {
			case runs <- r:
			case <-enough:
				return
			}
			m.awaitAfter(r)
		}
	}
}

// await queues a job's first run from a minute on, if it has one.
func (m *machine) await(job, from int) {
	end := m.spans[len(m.spans)-1].To
	if minute, found := m.clock.nextRun(m.plans[job], from, end); found {
		m.queue.push(run{minute: minute, job: job})
	}
}

func (m *machine) awaitAfter(r run) {
	if r.late {
		// The job may run at that very minute, too.
		m.await(r.job, r.minute)
		return
	}
	m.await(r.job, r.minute+1)
}

// catchUp puts late runs in the place of those that the machine missed.
func (m *machine) catchUp(from int) {
	for len(m.queue) > 0 && m.queue[0].minute < from {
		missed := m.queue.pop()
		m.queue.push(run{minute: from, job: missed.job, late: true})
	}
}

// hasRunIn counts late runs even in a span without minutes.
func (m *machine) hasRunIn(span Span) bool {
	return len(m.queue) > 0 && (m.queue[0].late || m.queue[0].minute < span.To)
}
