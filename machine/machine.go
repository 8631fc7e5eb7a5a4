// Package machine runs programs as instructions.
package machine

import (
	"gambit/api"
	"gambit/code"
	"gambit/stack"
	"gambit/value"
)

// frame is a body that is under way.
type frame struct {
	steps []code.Instruction
	at    int // the next one of them
	base  int // where its local variables begin among the values
}

// A machine is made for one run, and nothing of it is left behind.
type machine struct {
	program *code.Program
	bets    []api.Bet // those that count
	lots    []lot     // one for each function
	globals []value.Value
	values  stack.Stack[value.Value] // of each frame its local variables, and above them what is being worked out
	calls   stack.Stack[frame]       // those that wait for the one that is now under way
	now     frame
	fuel    int // rounds and calls that may still begin
	cells   int // values in all arrays that were made
	out     []string
	wrong   api.Fault
}

// Run answers what a program does, and how its functions fare with the bets on them.
func Run(program *code.Program, bets []api.Bet) api.Result {
	m := &machine{
		program: program,
		bets:    bets[:min(len(bets), api.MaxBets)],
		lots:    make([]lot, len(program.Functions)),
		globals: make([]value.Value, program.Globals),
		fuel:    api.MaxFuel,
	}
	m.begin(&program.Main, 0)
	m.work()
	result := api.Result{
		Out:   m.out,
		Code:  m.wrong.Code,
		Line:  m.wrong.Line,
		Fast:  make([]int, len(m.lots)),
		Drops: make([]int, len(m.lots)),
	}
	for i, l := range m.lots {
		result.Fast[i], result.Drops[i] = l.fast, l.drops
	}
	return result
}

// work ends where something goes wrong or the program's own body does; those of functions end with a return.
func (m *machine) work() {
	for m.wrong.Code == api.OK && m.now.at < len(m.now.steps) {
		in := m.now.steps[m.now.at]
		m.now.at++
		actionOf(in.Op)(m, in)
	}
}

// begin sets about a body whose first local variables, the arguments, lie on top already.
func (m *machine) begin(body *code.Body, arguments int) {
	m.now = frame{steps: body.Steps, base: m.values.Len() - arguments}
	for range body.Slots - arguments {
		m.values.Push(value.Value{})
	}
}

func (m *machine) fail(code api.Errno, in code.Instruction) {
	m.wrong = api.Fault{Code: code, Line: in.Line}
}

// spend uses fuel; it is false if there is none left.
func (m *machine) spend(in code.Instruction) bool {
	if m.fuel == 0 {
		m.fail(api.ErrFuel, in)
		return false
	}
	m.fuel--
	return true
}

// room takes room for values of arrays; it is false if there is too little left.
func (m *machine) room(values int, in code.Instruction) bool {
	if values > api.MaxCells-m.cells {
		m.fail(api.ErrMemory, in)
		return false
	}
	m.cells += values
	return true
}

// two takes what stood left and right of a sign.
func (m *machine) two() (left, right value.Value) {
	right = m.values.Pop()
	left = m.values.Pop()
	return left, right
}

// both tells if what stands left and right of a sign is of a kind.
func (m *machine) both(kind value.Kind) bool {
	top := m.values.Len() - 1
	return m.values.At(top).Kind == kind && m.values.At(top-1).Kind == kind
}

func (m *machine) askInts(in code.Instruction) bool {
	if !m.both(value.Int) {
		m.fail(api.ErrType, in)
		return false
	}
	return true
}

func (m *machine) pushInt(number int64) {
	m.values.Push(value.OfInt(number))
}

func (m *machine) pushBool(yes bool) {
	m.values.Push(value.OfBool(yes))
}
