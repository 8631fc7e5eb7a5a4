// Package fast makes the fast forms of functions: bodies that rely on what was bet of their arguments.
package fast

import (
	"gambit/api"
	"gambit/code"
	"gambit/value"
)

// Form is made of a function for a bet.
type Form struct {
	Body code.Body
	bet  []known // of each parameter
}

// New makes the form for a bet on a function that there is in the program.
func New(program *code.Program, bet api.Bet) *Form {
	function := &program.Functions[bet.Func]
	form := &Form{bet: make([]known, function.Params)}
	for i := range form.bet {
		form.bet[i] = betOf(bet, i)
	}
	m := &maker{program: program, params: lasting(function, form.bet)}
	form.Body = m.body(&function.Body)
	return form
}

// Params tells of how many arguments something may be bet.
func (f *Form) Params() int {
	return len(f.bet)
}

// Fits tells if what was bet of an argument is so.
func (f *Form) Fits(place int, argument value.Value) bool {
	return f.bet[place].is(argument)
}

// betOf answers what is bet of the parameter at a place.
func betOf(bet api.Bet, place int) known {
	if place >= len(bet.Kinds) {
		return known{}
	}
	switch bet.Kinds[place] {
	case api.Int:
		return ofKind(value.Int)
	case api.String:
		return ofKind(value.String)
	case api.Bool:
		return ofKind(value.Bool)
	case api.Null:
		return itself(value.Value{})
	case api.Array:
		return ofKind(value.Array)
	case api.Same:
		return itself(value.OfInt(intAt(bet.Ints, place)))
	}
	return known{}
}

func intAt(ints []int64, place int) int64 {
	if place >= len(ints) {
		return 0
	}
	return ints[place]
}

// lasting answers what is known of parameters all through the body: nothing of those that are set in it.
func lasting(function *code.Function, bet []known) []known {
	params := make([]known, len(bet))
	copy(params, bet)
	for _, in := range function.Body.Steps {
		if in.Op == code.Store && in.Arg < len(params) {
			params[in.Arg] = known{}
		}
	}
	return params
}
