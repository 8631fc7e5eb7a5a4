// Package scan cuts the text of a program into tokens.
package scan

// Kind tells what sort of token one is; the words and the signs are a sort each.
type Kind int

const (
	End Kind = iota // behind the last token of a text
	Name
	Int
	String

	Fn
	Let
	If
	Else
	While
	Return
	Break
	Continue
	Print
	True
	False
	Null
	Len
	Push

	OpenParen
	CloseParen
	OpenBrace
	CloseBrace
	OpenBracket
	CloseBracket
	Comma
	Semicolon
	Assign
	Equal
	Not
	NotEqual
	Less
	LessEqual
	Greater
	GreaterEqual
	Plus
	Minus
	Times
	Divide
	Rest
	And
	Or
)

// Token is one token of a text, and the line that it stands in.
type Token struct {
	Kind  Kind
	Line  int
	Text  string // of a Name itself, of a String what it stands for
	Value int64  // of an Int
}

type spelling struct {
	text string
	kind Kind
}

var words = [...]spelling{
	{"fn", Fn}, {"let", Let}, {"if", If}, {"else", Else}, {"while", While},
	{"return", Return}, {"break", Break}, {"continue", Continue}, {"print", Print},
	{"true", True}, {"false", False}, {"null", Null}, {"len", Len}, {"push", Push},
}

// The signs of two bytes stand first, since the longest one that fits is to be taken.
var signs = [...]spelling{
	{"==", Equal}, {"!=", NotEqual}, {"<=", LessEqual}, {">=", GreaterEqual}, {"&&", And}, {"||", Or},
	{"(", OpenParen}, {")", CloseParen}, {"{", OpenBrace}, {"}", CloseBrace},
	{"[", OpenBracket}, {"]", CloseBracket}, {",", Comma}, {";", Semicolon},
	{"=", Assign}, {"!", Not}, {"<", Less}, {">", Greater},
	{"+", Plus}, {"-", Minus}, {"*", Times}, {"/", Divide}, {"%", Rest},
}
