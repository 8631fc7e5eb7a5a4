// Package gambit: programs that are run on bets: see DOC.md.
package gambit

import (
	"gambit/api"
	"gambit/check"
	"gambit/code"
	"gambit/emit"
	"gambit/machine"
	"gambit/parse"
	"gambit/scan"
	"gambit/tree"
)

// Program is a program that was read.
type Program struct {
	code *code.Program
}

// Compile reads a program (P3).
func Compile(text string) (*Program, api.Fault) {
	read, fault := readText(text)
	if fault.Code != api.OK {
		return nil, fault
	}
	return &Program{code: emit.Program(read)}, api.Fault{}
}

// readText asks for one sort of fault after the other, in the order in which they are to be told.
func readText(text string) (*tree.Program, api.Fault) {
	if len(text) > api.MaxText {
		return nil, api.Fault{Code: api.ErrLimit}
	}
	tokens, fault := scan.Scan(text)
	if fault.Code != api.OK {
		return nil, fault
	}
	program, fault := parse.Program(tokens)
	if fault.Code != api.OK {
		return nil, fault
	}
	if fault := check.Program(program); fault.Code != api.OK {
		return nil, fault
	}
	return program, api.Fault{}
}

// Functions tells the functions' names (P3).
func (p *Program) Functions() []string {
	names := make([]string, len(p.code.Functions))
	for i := range names {
		names[i] = p.code.Functions[i].Name
	}
	return names
}

// Run runs the program (P4, P5).
func (p *Program) Run(bets []api.Bet) api.Result {
	return machine.Run(p.code, bets)
}
