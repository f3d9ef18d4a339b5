package server

import "alidade/api"

// log is what happened, how many steps were counted, and how many operations there are.
type log struct {
	events []api.Event
	steps  int
	ops    int
}

// note keeps an event of the step that was counted last.
func (l *log) note(e api.Event) {
	if len(l.events) < api.MaxEvents {
		e.Step = l.steps
		l.events = append(l.events, copied(e))
	}
}

// open is the number of an operation that is new.
func (l *log) open() int {
	l.ops++
	return l.ops
}

// all is the events, as new memory.
func (l *log) all() []api.Event {
	all := make([]api.Event, 0, len(l.events))
	for _, e := range l.events {
		all = append(all, copied(e))
	}
	return all
}

func copied(e api.Event) api.Event {
	e.Reply.Answer.IDs = append([]int(nil), e.Reply.Answer.IDs...)
	return e
}
