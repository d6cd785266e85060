package timer

import (
	"cmp"

	"drawbridge/api"
)

// alarm is one that waits. Package api is given, so that what is told can have no method.
type alarm struct{ api.Alarm }

// compare answers what is below 0 if a is due ahead of b, above 0 if it is due behind b, and 0 of the same one.
func (a alarm) compare(b alarm) int {
	return cmp.Or(cmp.Compare(a.At, b.At), cmp.Compare(a.Id, b.Id))
}

// before tells whether a is due ahead of b.
func (a alarm) before(b alarm) bool {
	return a.compare(b) < 0
}

// told answers what is told of alarms.
func told(list []alarm) []api.Alarm {
	var answer []api.Alarm
	for _, a := range list {
		answer = append(answer, a.Alarm)
	}
	return answer
}
