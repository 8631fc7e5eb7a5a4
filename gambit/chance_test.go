package gambit_test

import (
	"math/rand/v2"
	"slices"
	"strings"
	"testing"

	"gambit/api"
	"gambit/gambit"
	"gambit/parse"
	"gambit/scan"
)

// The sorts of values that a maker has in mind; null stands for what it knows nothing of.
const sorts = "ibsan"

type variable struct {
	name string
	sort byte
}

type signature struct {
	name   string
	params string // sorts
	answer byte
}

// A maker makes up programs that mostly do something sensible, and go wrong now and then.
type maker struct {
	random    *rand.Rand
	tokens    []string
	functions []signature
	vars      []variable // that can be seen, the innermost last
	block     int        // where those of the innermost block begin
	loops     int        // that are open
	answer    byte       // of the function that is being made; 0: of none
	wrongs    int        // one value in so many is of another sort
}

func (m *maker) chance(n int) bool { return m.random.IntN(n) == 0 }

func (m *maker) write(text string) { m.tokens = append(m.tokens, strings.Fields(text)...) }

func (m *maker) one(texts ...string) string { return texts[m.random.IntN(len(texts))] }

func (m *maker) sort() byte { return sorts[m.random.IntN(len(sorts))] }

func (m *maker) program() string {
	for _, name := range []string{"f", "g", "h"}[:m.random.IntN(4)] {
		params := ""
		for range m.random.IntN(3) {
			params += string(m.sort())
		}
		m.functions = append(m.functions, signature{name, params, m.sort()})
	}
	left := m.functions
	for range 4 + m.random.IntN(8) {
		if len(left) > 0 && m.chance(3) {
			m.function(left[0])
			left = left[1:]
		}
		m.statement(3)
	}
	for _, f := range left {
		m.function(f)
	}
	return m.text()
}

// calling makes functions, and a program that does nothing but call them.
func (m *maker) calling() string {
	m.write("let c = 1 ; let d = \"d\" ; let e = [ 0 ] ;")
	m.vars = []variable{{"c", 'i'}, {"d", 's'}, {"e", 'a'}}
	m.functions = []signature{{"f", string(m.sort()) + string(m.sort()), m.sort()}, {"g", string(m.sort()), m.sort()}}
	for _, f := range m.functions {
		m.function(f)
	}
	body := m.wrongs
	for range 12 {
		m.wrongs = 6
		m.write("print")
		m.callOf(m.functions[m.random.IntN(2)], 1+m.random.IntN(2))
		m.write(";")
	}
	m.wrongs = body
	return m.text()
}

func (m *maker) text() string {
	text := ""
	for _, token := range m.tokens {
		text += token + m.one(" ", " ", "\n")
	}
	return text
}

func (m *maker) function(f signature) {
	vars, block := len(m.vars), m.block
	m.write("fn " + f.name + " (")
	m.block = vars
	for i := range f.params {
		name := []string{"a", "p"}[i]
		if i > 0 {
			m.write(",")
		}
		m.write(name)
		m.vars = append(m.vars, variable{name, f.params[i]})
	}
	m.write(") {")
	m.answer = f.answer
	// Most functions call only when something still holds, so that not all of them go too deep.
	if !m.chance(4) {
		m.write("if ")
		m.expr('b', 2)
		m.write("{ return ")
		m.expr(f.answer, 1)
		m.write("; }")
	}
	for range m.random.IntN(4) {
		m.statement(2)
	}
	m.write("return")
	m.expr(f.answer, 2)
	m.write("; }")
	m.answer = 0
	m.vars, m.block = m.vars[:vars], block
}

func (m *maker) body(depth int) {
	vars, block := len(m.vars), m.block
	m.block = vars
	m.write("{")
	for range m.random.IntN(4) {
		m.statement(depth)
	}
	m.write("}")
	m.vars, m.block = m.vars[:vars], block
}

func (m *maker) statement(depth int) {
	switch n := m.random.IntN(16); {
	case n < 3:
		m.let()
	case n < 5:
		m.write("print")
		m.expr(m.sort(), 3)
		m.write(";")
	case n < 7:
		m.set()
	case n < 8 && depth > 0:
		m.write("if")
		m.expr('b', 2)
		m.body(depth - 1)
		if m.chance(2) {
			m.write("else")
			m.body(depth - 1)
		}
	case n < 10 && depth > 0:
		m.loop(depth)
	case n < 11 && m.loops > 0:
		m.write("if")
		m.expr('b', 2)
		m.write(m.one("{ break ; }", "{ continue ; }"))
	case n < 12 && m.answer != 0 && m.chance(3):
		m.write("return")
		m.expr(m.answer, 2)
		m.write(";")
	case n < 13:
		m.write("push (")
		m.expr('a', 1)
		m.write(",")
		m.expr(m.sort(), 2)
		m.write(") ;")
	case n < 14 || len(m.functions) == 0:
		m.expr(m.sort(), 3)
		m.write(";")
	default:
		m.callOf(m.functions[m.random.IntN(len(m.functions))], 2)
		m.write(";")
	}
}

func (m *maker) let() {
	name := m.one("a", "b", "c", "d", "e")
	for _, v := range m.vars[m.block:] {
		if v.name == name {
			return
		}
	}
	sort := m.sort()
	m.write("let " + name + " =")
	m.expr(sort, 3)
	m.write(";")
	m.vars = append(m.vars, variable{name, sort})
}

func (m *maker) set() {
	if len(m.vars) == 0 {
		return
	}
	v := m.vars[m.random.IntN(len(m.vars))]
	m.write(v.name)
	if v.sort == 'a' && m.chance(2) {
		m.write("[")
		m.expr('i', 1)
		m.write("] =")
		m.expr(m.sort(), 2)
	} else {
		m.write("=")
		m.expr(m.sortOf(v.name), 3)
	}
	m.write(";")
}

// sortOf is the sort of the innermost variable of a name.
func (m *maker) sortOf(name string) byte {
	for i := len(m.vars) - 1; i >= 0; i-- {
		if m.vars[i].name == name {
			return m.vars[i].sort
		}
	}
	return 'n'
}

// loop makes some that count, some that break off, and some that only fuel ends.
func (m *maker) loop(depth int) {
	switch {
	case m.chance(6):
		m.write("while true")
	case m.chance(3):
		m.write("while ")
		m.expr('b', 2)
	default:
		m.counting(depth)
		return
	}
	m.loops++
	m.body(depth - 1)
	m.loops--
}

func (m *maker) counting(depth int) {
	name := "k" + number(len(m.tokens))
	m.write("let " + name + " = 0 ; while " + name + " < " + m.one("1", "2", "3", "5", "9", "40", "600") + " { " + name + " = " + name + " + 1 ; if true")
	m.loops++
	m.body(depth - 1)
	m.loops--
	m.write("}")
}

// leaf is a variable of the sort if there is one, or what is written out.
func (m *maker) leaf(sort byte) {
	var names []string
	for _, v := range m.vars {
		if m.sortOf(v.name) == sort {
			names = append(names, v.name)
		}
	}
	if len(names) > 0 && !m.chance(4) {
		m.write(m.one(names...))
		return
	}
	switch sort {
	case 'i':
		m.write(m.one("0", "1", "2", "3", "7", "10", greatest, "- 1", "- 2", "( - "+greatest+" - 1 )"))
	case 'b':
		m.write(m.one("true", "false"))
	case 's':
		m.write(m.one(`""`, `"a"`, `"b"`, `"xyz"`, `"0"`, `"`+strings.Repeat("w", 40)+`"`))
	case 'a':
		m.write(m.one("[ ]", "[ 1 , 2 ]", "[ [ ] ]", "[ null , true , \"s\" , 3 ]"))
	default:
		m.write("null")
	}
}

func (m *maker) expr(sort byte, depth int) {
	if m.chance(m.wrongs) {
		sort = m.sort()
	}
	if depth == 0 || m.chance(3) {
		m.leaf(sort)
		return
	}
	if m.chance(4) && m.call(sort, depth) {
		return
	}
	switch sort {
	case 'i':
		m.int(depth)
	case 'b':
		m.bool(depth)
	case 's':
		m.string(depth)
	case 'a':
		m.array(depth)
	default:
		m.leaf(sort)
	}
}

func (m *maker) call(sort byte, depth int) bool {
	for _, f := range m.functions {
		if f.answer != sort || m.chance(2) {
			continue
		}
		m.callOf(f, depth)
		return true
	}
	return false
}

func (m *maker) callOf(f signature, depth int) {
	m.write(f.name + " (")
	for i := range f.params {
		if i > 0 {
			m.write(",")
		}
		m.expr(f.params[i], depth-1)
	}
	m.write(")")
}

func (m *maker) signs(left byte, sign string, right byte, depth int) {
	m.write("(")
	m.expr(left, depth-1)
	m.write(sign)
	m.expr(right, depth-1)
	m.write(")")
}

func (m *maker) int(depth int) {
	switch m.random.IntN(6) {
	case 0:
		m.write("len (")
		m.expr("sa"[m.random.IntN(2)], depth-1)
		m.write(")")
	case 1:
		m.write("-")
		m.expr('i', depth-1)
	case 2:
		m.write("[ 4 , 5 , 6 ] [")
		m.expr('i', depth-1)
		m.write("% 3 ]")
	default:
		m.signs('i', m.one("+", "-", "*", "+", "-", "*", "/", "%"), 'i', depth)
	}
}

func (m *maker) bool(depth int) {
	switch m.random.IntN(5) {
	case 0:
		m.write("!")
		m.expr('b', depth-1)
	case 1:
		m.signs('b', m.one("&&", "||"), 'b', depth)
	case 2:
		sort := m.sort()
		m.signs(sort, m.one("==", "!="), sort, depth)
	default:
		sort := "is"[m.random.IntN(2)]
		m.signs(sort, m.one("<", "<=", ">", ">="), sort, depth)
	}
}

func (m *maker) string(depth int) {
	if m.chance(4) {
		m.expr('s', depth-1)
		m.write("[ 0 ]")
		return
	}
	m.signs('s', "+", 's', depth)
}

func (m *maker) array(depth int) {
	m.write("[")
	for i := range m.random.IntN(4) {
		if i > 0 {
			m.write(",")
		}
		m.expr(m.sort(), depth-1)
	}
	m.write("]")
}

// bets are made up such that most of them hold for a while, if the program is one of the maker's own.
func (m *maker) bets() []api.Bet {
	var bets []api.Bet
	for range m.random.IntN(api.MaxBets + 5) {
		bet := api.Bet{Func: m.random.IntN(5) - 1, After: m.random.IntN(6) - 1}
		if m.chance(4) {
			bet.After = m.random.IntN(60)
		}
		for place := range m.random.IntN(4) {
			bet.Kinds = append(bet.Kinds, m.kind(bet.Func, place))
			bet.Ints = append(bet.Ints, int64(m.random.IntN(4)))
		}
		bet.Ints = bet.Ints[:m.random.IntN(len(bet.Ints)+1)]
		bets = append(bets, bet)
	}
	return bets
}

// kind is the one of a parameter's sort, mostly.
func (m *maker) kind(function, place int) int {
	if function < 0 || function >= len(m.functions) || place >= len(m.functions[function].params) || m.chance(5) {
		return m.random.IntN(9) - 1
	}
	kinds := [len(sorts)]int{api.Int, api.Bool, api.String, api.Array, api.Null}
	kind := kinds[strings.IndexByte(sorts, m.functions[function].params[place])]
	if kind == api.Int && m.chance(4) {
		return api.Same
	}
	return kind
}

// holdRun asks for what a walk over the tree answers; it is false where there is no program.
func holdRun(t *testing.T, text string, bets []api.Bet, seen map[api.Errno]int) bool {
	t.Helper()
	p, fault := gambit.Compile(text)
	if p == nil {
		seen[-fault.Code]++
		return false
	}
	tokens, _ := scan.Scan(text)
	read, _ := parse.Program(tokens)
	want := walk(read, bets)
	seen[want.Code]++
	if got := p.Run(nil); !sameRun(got, want) {
		t.Fatalf("Run of\n%s\n= %q, %d in line %d; want %q, %d in line %d", text, got.Out, got.Code, got.Line, want.Out, want.Code, want.Line)
	}
	got := p.Run(bets)
	if !sameRun(got, want) {
		t.Fatalf("Run of\n%s\nwith the bets %+v = %q, %d in line %d; want %q, %d in line %d", text, bets, got.Out, got.Code, got.Line, want.Out, want.Code, want.Line)
	}
	if !slices.Equal(got.Fast, want.Fast) || !slices.Equal(got.Drops, want.Drops) {
		t.Fatalf("Run of\n%s\nwith the bets %+v: Fast %v, Drops %v; want %v, %v", text, bets, got.Fast, got.Drops, want.Fast, want.Drops)
	}
	for i := range got.Fast {
		seen[fastCalls] += got.Fast[i]
		seen[drops] += got.Drops[i]
	}
	return true
}

// Beside what programs answer it is also counted how their functions fare.
const fastCalls, drops api.Errno = 100, 101

// P1, P4, P5, P6: programs that are made up do what a walk over their tree does, whatever is bet.
func TestAgainstAWalk(t *testing.T) {
	random := rand.New(rand.NewPCG(3, 4))
	seen := map[api.Errno]int{}
	for i := range 8000 {
		m := &maker{random: random, wrongs: 20 << (i % 8)}
		text := m.program()
		holdRun(t, text, m.bets(), seen)
	}
	for code, least := range map[api.Errno]int{api.OK: 1000, api.ErrType: 500, api.ErrDivide: 100, api.ErrIndex: 100, api.ErrFuel: 100, api.ErrDepth: 50, api.ErrMemory: 50, fastCalls: 10000, drops: 100} {
		if seen[code] < least {
			t.Errorf("only %d programs with the answer %d", seen[code], code)
		}
	}
	t.Log(seen)
}

// P5, P6: the same of programs that call their functions again and again, with what is bet and with other things.
func TestCallsAgainstAWalk(t *testing.T) {
	random := rand.New(rand.NewPCG(7, 8))
	seen := map[api.Errno]int{}
	for i := range 12000 {
		m := &maker{random: random, wrongs: 20 << (i % 8)}
		text := m.calling()
		holdRun(t, text, m.bets(), seen)
	}
	if seen[fastCalls] < 20000 || seen[drops] < 4000 {
		t.Errorf("only %d fast calls, %d drops", seen[fastCalls], seen[drops])
	}
	t.Log(seen)
}

// P1, P4, P5, P6: the same of programs that are made up by the grammar alone.
func TestGrammarAgainstAWalk(t *testing.T) {
	r := readGrammar()
	random := rand.New(rand.NewPCG(5, 6))
	seen := map[api.Errno]int{}
	runs := 0
	for range 8000 {
		frame := frames[random.IntN(len(frames))]
		tokens := strings.Fields(frame.ahead)
		for range 1 + random.IntN(4) {
			tokens = append(tokens, makeUp(r, random, frame.inner, 6+random.IntN(14))...)
		}
		tokens = append(tokens, strings.Fields(frame.behind)...)
		m := &maker{random: random}
		if holdRun(t, strings.Join(tokens, "\n"), m.bets(), seen) {
			runs++
		}
	}
	if runs < 1000 {
		t.Errorf("only %d programs", runs)
	}
	t.Log(seen)
}
