// Package value: the values that programs work with, and how they are told.
package value

import (
	"strconv"

	"gambit/api"
)

// Kind tells of what sort a value is.
type Kind int

const (
	Null Kind = iota // the zero value is null, as variables are that were not let yet
	Bool
	Int
	String
	Array
)

// Value has set only what its Kind asks for, so that == tells if two values are the same.
type Value struct {
	Kind Kind
	Yes  bool   // of a Bool
	Int  int64  // of an Int
	Text string // of a String
	List *List  // of an Array
}

// List is what all who have one array share.
type List struct {
	Items []Value
}

// OfBool is the value of a bool.
func OfBool(yes bool) Value { return Value{Kind: Bool, Yes: yes} }

// OfInt is the value of a number.
func OfInt(number int64) Value { return Value{Kind: Int, Int: number} }

// OfString is the value of a text.
func OfString(text string) Value { return Value{Kind: String, Text: text} }

// OfList is the value of a list, which stays shared with whoever has it.
func OfList(list *List) Value { return Value{Kind: Array, List: list} }

// An array that lies in so many others is not told.
const deepest = 4

// Line answers a value as it is printed; false, if that is too long for a line.
func Line(v Value) (string, bool) {
	line := tell(nil, v, 0)
	if len(line) > api.MaxLine {
		return "", false
	}
	return string(line), true
}

// tell lays a value that is in so many arrays behind a line.
func tell(line []byte, v Value, within int) []byte {
	switch v.Kind {
	case Bool:
		return strconv.AppendBool(line, v.Yes)
	case Int:
		return strconv.AppendInt(line, v.Int, 10)
	case String:
		return append(line, v.Text...)
	case Array:
		return tellList(line, v.List, within)
	}
	return append(line, "null"...)
}

func tellList(line []byte, list *List, within int) []byte {
	if within == deepest {
		return append(line, "[..]"...)
	}
	line = append(line, '[')
	for i, item := range list.Items {
		// Arrays that have themselves many times would else be told without an end in sight.
		if len(line) > api.MaxLine {
			return line
		}
		if i > 0 {
			line = append(line, ',')
		}
		line = tell(line, item, within+1)
	}
	return append(line, ']')
}
