package machine

import (
	"gambit/api"
	"gambit/code"
	"gambit/value"
)

func constant(m *machine, in code.Instruction) {
	m.values.Push(in.Value)
}

func load(m *machine, in code.Instruction) {
	m.values.Push(m.values.At(m.now.base + in.Arg))
}

func loadGlobal(m *machine, in code.Instruction) {
	m.values.Push(m.globals[in.Arg])
}

func store(m *machine, in code.Instruction) {
	m.values.Put(m.now.base+in.Arg, m.values.Pop())
}

func storeGlobal(m *machine, in code.Instruction) {
	m.globals[in.Arg] = m.values.Pop()
}

func drop(m *machine, in code.Instruction) {
	m.values.Pop()
}

func jump(m *machine, in code.Instruction) {
	m.now.at = in.Arg
}

func unless(m *machine, in code.Instruction) {
	asked := m.values.Pop()
	switch in.Op {
	case code.Round:
		if asked.Yes && !m.spend(in) {
			return
		}
		fallthrough
	case code.Unless:
		if asked.Kind != value.Bool {
			m.fail(api.ErrType, in)
		} else if !asked.Yes {
			m.now.at = in.Arg
		}
	}
}

// decide looks at the left side of && or ||: where that decides it stays, as what the whole is.
func decide(m *machine, in code.Instruction) {
	left := m.values.Top()
	switch {
	case left.Kind != value.Bool:
		m.fail(api.ErrType, in)
	case left.Yes == (in.Op == code.Or):
		m.now.at = in.Arg
	default:
		m.values.Pop()
	}
}

func askBool(m *machine, in code.Instruction) {
	if m.values.Top().Kind != value.Bool {
		m.fail(api.ErrType, in)
	}
}

func call(m *machine, in code.Instruction) {
	if !m.spend(in) {
		return
	}
	if m.calls.Len() == api.MaxDepth {
		m.fail(api.ErrDepth, in)
		return
	}
	m.calls.Push(m.now)
	m.begin(m.body(in.Arg), m.program.Functions[in.Arg].Params)
}

func leave(m *machine, in code.Instruction) {
	switch in.Op {
	case code.ReturnNull:
		m.values.Push(value.Value{})
		fallthrough
	case code.Return:
		answer := m.values.Pop()
		m.values.Cut(m.now.base)
		m.values.Push(answer)
		m.now = m.calls.Pop()
	}
}

func tell(m *machine, in code.Instruction) {
	line, ok := value.Line(m.values.Pop())
	if !ok || len(m.out) == api.MaxLines {
		m.fail(api.ErrMemory, in)
		return
	}
	m.out = append(m.out, line)
}
