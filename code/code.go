// Package code: the instructions that programs are run as.
//
// They work on a stack of values: what an instruction asks for lies on top, what stood left in the text below.
package code

import "gambit/value"

// Op says what an instruction does.
type Op int

const (
	Constant    Op = iota // lays Value on top
	Load                  // lays the local variable Arg on top
	LoadGlobal            // lays the global variable Arg on top
	Store                 // takes the top into the local variable Arg
	StoreGlobal           // takes the top into the global variable Arg
	Drop                  // takes the top away

	Jump    // goes to Arg
	Round   // as Unless, but a round begins if it does not go
	Unless  // takes a bool, and goes to Arg if it is false
	And     // goes to Arg if the bool on top is false, else takes it away
	Or      // goes to Arg if the bool on top is true, else takes it away
	AskBool // asks if the top is a bool

	// What ends with Ints or Int, and Join, does not ask of what sort the values are: fast forms have it where that is known.
	Add // of ints, or of strings
	AddInts
	Join // of strings
	Subtract
	SubtractInts
	Multiply
	MultiplyInts
	Divide
	DivideInts
	Rest
	RestInts
	Negate
	NegateInt

	Equal
	NotEqual
	Not
	Greater
	Less
	GreaterEqual
	LessEqual
	GreaterInts
	LessInts
	GreaterEqualInts
	LessEqualInts

	List     // makes an array of Arg values
	Length   // of a string or an array
	Push     // takes a value, puts it at an array's end, and leaves it in its place
	Index    // takes a place, and what it is of
	SetIndex // takes a value, a place, and the array

	Print      // takes the top and tells it
	Call       // function Arg; its arguments lie on top
	ReturnNull // as Return, of null
	Return     // the top is what the call is

	Ops // how many there are
)

// Instruction is one step of a program; Line is where what goes wrong in it is told.
type Instruction struct {
	Op    Op
	Arg   int
	Line  int
	Value value.Value
}

// Body is what is done one by one, from the first instruction on.
type Body struct {
	Slots int // local variables, of a function the parameters first
	Steps []Instruction
}

// Function always comes to a Return or ReturnNull.
type Function struct {
	Name   string
	Params int
	Body   Body
}

// Program is never changed once it was made, so that its runs have nothing from one another.
type Program struct {
	Globals   int
	Main      Body
	Functions []Function
}
