package machine

import (
	"gambit/code"
	"gambit/fast"
)

// lot is how one function fares with the bets on it.
type lot struct {
	calls int        // that have begun
	form  *fast.Form // nil: it has none
	fast  int
	drops int
}

// body answers how a call of a function is to run that begins now, with its arguments on top.
func (m *machine) body(number int) *code.Body {
	l := &m.lots[number]
	if bet := m.taken(number, l.calls); bet >= 0 {
		l.form = fast.New(m.program, m.bets[bet])
	}
	l.calls++
	if l.form != nil && m.fits(l.form) {
		l.fast++
		return &l.form.Body
	}
	if l.form != nil {
		// Calls that run in it go on: what was bet of their own arguments is so.
		l.form = nil
		l.drops++
	}
	return &m.program.Functions[number].Body
}

// taken answers which bet makes a form at a call of a function, the last one of those on it; -1, if there is none.
func (m *machine) taken(number, call int) int {
	for i := len(m.bets) - 1; i >= 0; i-- {
		if m.bets[i].Func == number && m.bets[i].After == call {
			return i
		}
	}
	return -1
}

func (m *machine) fits(form *fast.Form) bool {
	first := m.values.Len() - form.Params()
	for i := range form.Params() {
		if !form.Fits(i, m.values.At(first+i)) {
			return false
		}
	}
	return true
}
