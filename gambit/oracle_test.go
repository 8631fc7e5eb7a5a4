package gambit_test

import (
	"math/rand/v2"
	"slices"
	"strings"
	"testing"

	"gambit/api"
	"gambit/gambit"
)

// The grammar of DOC.md in rules of one line each, for a reading by other means than the program's own.
// The signs `=` and `||` are called set and or, since = and | divide the rules here.
// The first way of each rule is a shortest one, so that makeUp comes to an end.
const grammar = `
program = | program item
item = statement | function
function = fn NAME ( params ) block
params = | names
names = NAME | names , NAME
block = { body }
body = | body statement
statement = expr ; | let NAME set expr ; | if expr block | if expr block else block | while expr block | return ; | return expr ; | break ; | continue ; | print expr ; | target set expr ;
target = NAME | part [ expr ]
expr = and | expr or and
and = equal | and && equal
equal = less | equal == less | equal != less
less = sum | less < sum | less <= sum | less > sum | less >= sum
sum = product | sum + product | sum - product
product = unary | product * unary | product / unary | product % unary
unary = part | ! unary | - unary
part = atom | part [ expr ]
atom = NAME | INT | STRING | true | false | null | ( expr ) | [ args ] | NAME ( args ) | len ( expr ) | push ( expr , expr )
args = | list
list = expr | list , expr
`

type rules map[string][][]string

func readGrammar() rules {
	r := rules{}
	for _, line := range strings.Split(strings.TrimSpace(grammar), "\n") {
		name, ways, _ := strings.Cut(line, " =")
		for _, way := range strings.Split(ways, " |") {
			r[name] = append(r[name], strings.Fields(way))
		}
	}
	return r
}

// sortOf is the grammar's word for a token.
func sortOf(token string) string {
	switch {
	case token == "=":
		return "set"
	case token == "||":
		return "or"
	case token[0] == '"':
		return "STRING"
	case '0' <= token[0] && token[0] <= '9':
		return "INT"
	case token == "a" || token == "b" || token == "f":
		return "NAME"
	}
	return token
}

// state is a way that was begun: how much of it is done, and at which token it began.
type state struct {
	name       string
	way        int
	done, from int
}

// firstWrong reads tokens by Earley's method: the first one that no program goes on with; len(tokens): the end; -1: none.
func firstWrong(r rules, tokens []string) int {
	sets := make([][]state, len(tokens)+1)
	sets[0] = []state{{"program", 0, 0, 0}, {"program", 1, 0, 0}}
	for at := 0; ; at++ {
		if len(sets[at]) == 0 {
			return at - 1
		}
		closeSet(r, sets, at)
		if at == len(tokens) {
			break
		}
		for _, s := range sets[at] {
			if way := r[s.name][s.way]; s.done < len(way) && way[s.done] == sortOf(tokens[at]) {
				s.done++
				sets[at+1] = append(sets[at+1], s)
			}
		}
	}
	for _, s := range sets[len(tokens)] {
		if s.name == "program" && s.from == 0 && s.done == len(r[s.name][s.way]) {
			return -1
		}
	}
	return len(tokens)
}

func closeSet(r rules, sets [][]state, at int) {
	known := map[state]struct{}{}
	for _, s := range sets[at] {
		known[s] = struct{}{}
	}
	add := func(s state) {
		if _, ok := known[s]; !ok {
			known[s] = struct{}{}
			sets[at] = append(sets[at], s)
		}
	}
	for i := 0; i < len(sets[at]); i++ {
		s := sets[at][i]
		way := r[s.name][s.way]
		if s.done < len(way) {
			next := way[s.done]
			for w, other := range r[next] {
				add(state{next, w, 0, at})
				if len(other) == 0 {
					s.done++
					add(s)
					s.done--
				}
			}
			continue
		}
		for _, outer := range slices.Clone(sets[s.from]) {
			if way := r[outer.name][outer.way]; outer.done < len(way) && way[outer.done] == s.name {
				outer.done++
				add(outer)
			}
		}
	}
}

// firstTooDeep is the first token that opens in MaxNest others; -1: none.
func firstTooDeep(tokens []string) int {
	open := 0
	for i, token := range tokens {
		switch token {
		case "(", "[", "{":
			if open >= api.MaxNest {
				return i
			}
			open++
		case ")", "]", "}":
			open--
		}
	}
	return -1
}

// looker goes over the tokens of a right program, without a tree.
type looker struct {
	tokens []string
	arity  map[string]int        // of each function, the first one of its name
	had    map[string]struct{}   // functions' names so far
	scopes []map[string]struct{} // of the blocks that are open, the outermost first
	waits  string                // a let's name, until its ";"
	braces []string              // what opened each block that is open
	opener string                // what opens the next one
}

// firstMisnamed is the first token that is a fault of names or places; -1: none.
func firstMisnamed(tokens []string) (int, api.Errno) {
	l := &looker{tokens: tokens, arity: map[string]int{}, had: map[string]struct{}{}, scopes: []map[string]struct{}{{}}}
	for i, token := range tokens {
		if token == "fn" {
			if _, ok := l.arity[tokens[i+1]]; !ok {
				l.arity[tokens[i+1]] = l.count(i + 2)
			}
		}
	}
	for i := 0; i < len(tokens); i++ {
		switch token := tokens[i]; {
		case token == "fn":
			end, bad := l.head(i)
			if bad >= 0 {
				return bad, api.ErrName
			}
			i = end
		case token == "if" || token == "while" || token == "else":
			l.opener = token
		case token == "{":
			l.braces = append(l.braces, l.opener)
			if l.opener != "fn" {
				l.scopes = append(l.scopes, map[string]struct{}{})
			}
		case token == "}":
			l.braces = l.braces[:len(l.braces)-1]
			l.scopes = l.scopes[:len(l.scopes)-1]
		case token == ";":
			if l.waits != "" {
				l.scopes[len(l.scopes)-1][l.waits] = struct{}{}
				l.waits = ""
			}
		case (token == "break" || token == "continue") && !slices.Contains(l.braces, "while"),
			token == "return" && !slices.Contains(l.braces, "fn"):
			return i, api.ErrPlace
		case sortOf(token) == "NAME" && !l.right(i):
			return i, api.ErrName
		}
	}
	return -1, api.OK
}

// count tells how many things stand in the parentheses that open here.
func (l *looker) count(open int) int {
	if l.tokens[open+1] == ")" {
		return 0
	}
	depth, n := 0, 1
	for _, token := range l.tokens[open:] {
		switch token {
		case "(", "[":
			depth++
		case ")", "]":
			depth--
		case ",":
			if depth == 1 {
				n++
			}
		}
		if depth == 0 {
			break
		}
	}
	return n
}

// head goes over a function up to its ")", and opens its scope.
func (l *looker) head(at int) (end, bad int) {
	name := l.tokens[at+1]
	if _, ok := l.had[name]; ok {
		return 0, at + 1
	}
	l.had[name] = struct{}{}
	scope := map[string]struct{}{}
	for at += 3; l.tokens[at] != ")"; at++ {
		if l.tokens[at] == "," {
			continue
		}
		if _, ok := scope[l.tokens[at]]; ok {
			return 0, at
		}
		scope[l.tokens[at]] = struct{}{}
	}
	l.scopes = append(l.scopes, scope)
	l.opener = "fn"
	return at, -1
}

// right tells if a name may stand as it is let, called or used.
func (l *looker) right(at int) bool {
	name := l.tokens[at]
	if at > 0 && l.tokens[at-1] == "let" {
		l.waits = name
		_, ok := l.scopes[len(l.scopes)-1][name]
		return !ok
	}
	if at+1 < len(l.tokens) && l.tokens[at+1] == "(" {
		n, ok := l.arity[name]
		return ok && n == l.count(at+1)
	}
	for _, scope := range l.scopes {
		if _, ok := scope[name]; ok {
			return true
		}
	}
	return false
}

// expected is the fault of tokens that stand in a line each.
func expected(r rules, tokens []string) api.Fault {
	if at := firstWrong(r, tokens); at >= 0 {
		return api.Fault{Code: api.ErrSyntax, Line: at + 1}
	}
	if at := firstTooDeep(tokens); at >= 0 {
		return api.Fault{Code: api.ErrLimit, Line: at + 1}
	}
	if at, code := firstMisnamed(tokens); at >= 0 {
		return api.Fault{Code: code, Line: at + 1}
	}
	return api.Fault{}
}

var spellings = []string{
	"fn", "let", "if", "else", "while", "return", "break", "continue", "print", "true", "false", "null", "len", "push",
	"(", ")", "{", "}", "[", "]", ",", ";", "=", "==", "!", "!=", "<", "<=", ">", ">=", "+", "-", "*", "/", "%", "&&", "||",
	"a", "b", "f", "1", `"s"`,
}

// makeUp writes out a symbol by ways that are chosen at random, and by the first ones where it goes too deep.
func makeUp(r rules, random *rand.Rand, symbol string, depth int) []string {
	ways, ok := r[symbol]
	if !ok {
		return []string{spell(random, symbol)}
	}
	way := ways[0]
	if depth > 0 && random.IntN(3) > 0 {
		way = ways[random.IntN(len(ways))]
	}
	var tokens []string
	for _, part := range way {
		tokens = append(tokens, makeUp(r, random, part, depth-1)...)
	}
	return tokens
}

func spell(random *rand.Rand, sort string) string {
	switch sort {
	case "set":
		return "="
	case "or":
		return "||"
	case "STRING":
		return `"s"`
	case "INT":
		return "1"
	case "NAME":
		return []string{"a", "b", "f"}[random.IntN(3)]
	}
	return sort
}

func spoil(random *rand.Rand, tokens []string) []string {
	at := random.IntN(len(tokens) + 1)
	token := spellings[random.IntN(len(spellings))]
	if at == len(tokens) || random.IntN(3) == 0 {
		return slices.Insert(slices.Clone(tokens), at, token)
	}
	if random.IntN(2) == 0 {
		return slices.Delete(slices.Clone(tokens), at, at+1)
	}
	spoilt := slices.Clone(tokens)
	spoilt[at] = token
	return spoilt
}

// frames make some names known and some places right: else few programs that are made up would have no fault.
var frames = []struct{ ahead, inner, behind string }{
	{"", "item", ""},
	{"let a = 1 ;", "item", ""},
	{"fn f ( a ) { }", "item", ""},
	{"let a = 1 ; let b = a ; fn f ( ) { a = b ; }", "item", ""},
	{"let a = 1 ; let b = a ; let f = b ; while a {", "statement", "}"},
	{"let b = 1 ; fn f ( a ) { if a { let f = b ; while f {", "statement", "} } } fn a ( ) { } fn b ( a , b ) { }"},
	{"fn a ( a , b , f ) { while b {", "statement", "} } fn b ( ) { } fn f ( b ) { }"},
}

func hold(t *testing.T, r rules, tokens []string, seen map[api.Errno]int) {
	t.Helper()
	text := strings.Join(tokens, "\n")
	want := expected(r, tokens)
	if want.Line > len(tokens) {
		// The end stands in the line of the last token, since no LF is behind that.
		want.Line = max(1, len(tokens))
	}
	if len(text) > api.MaxText {
		want = api.Fault{Code: api.ErrLimit}
	}
	seen[want.Code]++
	if p, fault := gambit.Compile(text); fault != want || (p == nil) != (want.Code != api.OK) {
		t.Fatalf("Compile(%q) = %v, %+v, want %+v", text, p != nil, fault, want)
	}
}

// P3: the first fault, of programs that are made up and of such that are spoilt a little.
func TestAgainstTheGrammar(t *testing.T) {
	r := readGrammar()
	random := rand.New(rand.NewPCG(1, 2))
	seen := map[api.Errno]int{}
	for range 1500 {
		frame := frames[random.IntN(len(frames))]
		tokens := strings.Fields(frame.ahead)
		for range 1 + random.IntN(4) {
			tokens = append(tokens, makeUp(r, random, frame.inner, 6+random.IntN(14))...)
		}
		tokens = append(tokens, strings.Fields(frame.behind)...)
		if len(tokens) > 150 {
			continue // firstWrong is slow
		}
		hold(t, r, tokens, seen)
		for range 4 {
			hold(t, r, spoil(random, tokens), seen)
		}
	}
	for code := api.OK; code <= api.ErrPlace; code++ {
		if code != api.ErrLimit && seen[code] < 100 {
			t.Errorf("only %d programs with the answer %d", seen[code], code)
		}
	}
	t.Log(seen)
}

// P3: each token behind each beginning of a program that has a little of everything.
func TestEachNextToken(t *testing.T) {
	r := readGrammar()
	seen := map[api.Errno]int{}
	whole := strings.Fields("fn f ( a , b ) { while a { if ! b { break ; } else { continue ; } } return - a [ 0 ] ; } let a = [ 1 , 2 ] ; a = f ( a , ( 1 ) ) ; a [ 0 ] [ 1 ] = len ( a ) ; print push ( a , null ) ; return ;")
	for i := range len(whole) + 1 {
		for _, token := range spellings {
			hold(t, r, append(slices.Clone(whole[:i]), token), seen)
		}
	}
}
