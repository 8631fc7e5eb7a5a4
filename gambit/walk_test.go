package gambit_test

import (
	"math/big"
	"strconv"

	"gambit/api"
	"gambit/scan"
	"gambit/tree"
)

// A walker does what a program says by going over its tree, with none of the program's own instructions, slots or values.
type walker struct {
	functions map[string]*tree.Function
	bettors   map[string]*bettor
	globals   *scope
	fuel      int
	depth     int
	cells     int
	out       []string
}

// scope is a block that is under way.
type scope struct {
	names map[string]any
	outer *scope
}

type array struct{ items []any }

// wrong is panicked with where something goes wrong.
type wrong struct {
	code api.Errno
	line int
}

// How a statement came to its end.
type ending int

const (
	onward ending = iota
	broken
	continued
	returned
)

// A bettor holds bets against the calls of one function.
type bettor struct {
	made        map[int]api.Bet // by the number of the call at which they make a form
	calls       int
	form        *api.Bet
	fast, drops int
}

// walk answers what a program does, and how its functions fare.
func walk(program *tree.Program, bets []api.Bet) (result api.Result) {
	w := &walker{functions: map[string]*tree.Function{}, bettors: map[string]*bettor{}, globals: &scope{names: map[string]any{}}}
	var order []*bettor
	for _, s := range program.Body {
		switch s := s.(type) {
		case *tree.Function:
			w.functions[s.Ident.Name] = s
			b := &bettor{made: map[int]api.Bet{}}
			w.bettors[s.Ident.Name] = b
			order = append(order, b)
		case *tree.Let:
			w.globals.names[s.Ident.Name] = nil
		}
	}
	for i, bet := range bets {
		// A later one takes the place of an earlier one.
		if i < api.MaxBets && bet.Func >= 0 && bet.Func < len(order) {
			order[bet.Func].made[bet.After] = bet
		}
	}
	defer func() {
		result.Out = w.out
		for _, b := range order {
			result.Fast = append(result.Fast, b.fast)
			result.Drops = append(result.Drops, b.drops)
		}
		switch e := recover().(type) {
		case nil:
		case wrong:
			result.Code, result.Line = e.code, e.line
		default:
			panic(e)
		}
	}()
	for _, s := range program.Body {
		w.statement(s, w.globals)
	}
	return result
}

func (w *walker) block(body []tree.Statement, outer *scope) (ending, any) {
	inner := &scope{names: map[string]any{}, outer: outer}
	for _, s := range body {
		if how, v := w.statement(s, inner); how != onward {
			return how, v
		}
	}
	return onward, nil
}

func (w *walker) statement(s tree.Statement, in *scope) (ending, any) {
	switch s := s.(type) {
	case *tree.Let:
		in.names[s.Ident.Name] = w.expr(s.Value, in)
	case *tree.If:
		if truth(w.expr(s.Cond, in), s.Line) {
			return w.block(s.Then, in)
		}
		return w.block(s.Else, in)
	case *tree.While:
		return w.loop(s, in)
	case *tree.Return:
		if s.Value == nil {
			return returned, nil
		}
		return returned, w.expr(s.Value, in)
	case *tree.Break:
		return broken, nil
	case *tree.Continue:
		return continued, nil
	case *tree.Print:
		w.print(w.expr(s.Value, in), s.Line)
	case *tree.Set:
		w.set(s, in)
	case *tree.Do:
		w.expr(s.Value, in)
	}
	return onward, nil
}

func (w *walker) loop(s *tree.While, in *scope) (ending, any) {
	for truth(w.expr(s.Cond, in), s.Line) {
		w.burn(s.Line)
		switch how, v := w.block(s.Body, in); how {
		case broken:
			return onward, nil
		case returned:
			return how, v
		}
	}
	return onward, nil
}

func (w *walker) set(s *tree.Set, in *scope) {
	if target, ok := s.Target.(*tree.Var); ok {
		v := w.expr(s.Value, in)
		find(target.Name, in).names[target.Name] = v
		return
	}
	target := s.Target.(*tree.Index)
	of := w.expr(target.Of, in)
	place := w.expr(target.Place, in)
	v := w.expr(s.Value, in)
	list, ok := of.(*array)
	need(ok, api.ErrType, target.Line)
	number, ok := place.(int64)
	need(ok, api.ErrType, target.Line)
	need(0 <= number && number < int64(len(list.items)), api.ErrIndex, target.Line)
	list.items[number] = v
}

func find(name string, in *scope) *scope {
	for ; in != nil; in = in.outer {
		if _, ok := in.names[name]; ok {
			return in
		}
	}
	panic("no variable " + name)
}

func need(ok bool, code api.Errno, line int) {
	if !ok {
		panic(wrong{code, line})
	}
}

func truth(v any, line int) bool {
	yes, ok := v.(bool)
	need(ok, api.ErrType, line)
	return yes
}

func (w *walker) burn(line int) {
	w.fuel++
	need(w.fuel <= api.MaxFuel, api.ErrFuel, line)
}

func (w *walker) print(v any, line int) {
	text := told(v, 0, line)
	need(len(text) <= api.MaxLine && len(w.out) < api.MaxLines, api.ErrMemory, line)
	w.out = append(w.out, text)
}

func told(v any, within, line int) string {
	switch v := v.(type) {
	case bool:
		return strconv.FormatBool(v)
	case int64:
		return big.NewInt(v).String()
	case string:
		return v
	case *array:
		if within == 4 {
			return "[..]"
		}
		text := "["
		for i, item := range v.items {
			if i > 0 {
				text += ","
			}
			text += told(item, within+1, line)
			// What is told of a part is told of the whole.
			need(len(text) <= api.MaxLine, api.ErrMemory, line)
		}
		return text + "]"
	}
	return "null"
}

func (w *walker) exprs(list []tree.Expr, in *scope) []any {
	var all []any
	for _, e := range list {
		all = append(all, w.expr(e, in))
	}
	return all
}

func (w *walker) expr(e tree.Expr, in *scope) any {
	switch e := e.(type) {
	case *tree.Int:
		return e.Value
	case *tree.String:
		return e.Value
	case *tree.Bool:
		return e.Value
	case *tree.Group:
		return w.expr(e.Inner, in)
	case *tree.Var:
		return find(e.Name, in).names[e.Name]
	case *tree.List:
		all := w.exprs(e.Items, in)
		w.fill(len(all), e.Line)
		return &array{all}
	case *tree.Call:
		return w.call(e, w.exprs(e.Args, in))
	case *tree.Len:
		return length(w.expr(e.Of, in), e.Line)
	case *tree.Push:
		onto, v := w.expr(e.Onto, in), w.expr(e.Value, in)
		list, ok := onto.(*array)
		need(ok, api.ErrType, e.Line)
		w.fill(1, e.Line)
		list.items = append(list.items, v)
		return v
	case *tree.Index:
		of, place := w.expr(e.Of, in), w.expr(e.Place, in)
		return indexed(of, place, e.Line)
	case *tree.Unary:
		return signed(e.Sign, w.expr(e.Of, in), e.Line)
	case *tree.Binary:
		return w.binary(e, in)
	}
	return nil
}

func (w *walker) fill(n, line int) {
	w.cells += n
	need(w.cells <= api.MaxCells, api.ErrMemory, line)
}

func (w *walker) call(e *tree.Call, args []any) any {
	w.burn(e.Line)
	need(w.depth < api.MaxDepth, api.ErrDepth, e.Line)
	f := w.functions[e.Name]
	w.bettors[e.Name].call(args)
	params := &scope{names: map[string]any{}, outer: w.globals}
	for i, param := range f.Params {
		params.names[param.Name] = args[i]
	}
	w.depth++
	_, v := w.block(f.Body, params)
	w.depth--
	return v
}

func (b *bettor) call(args []any) {
	if bet, ok := b.made[b.calls]; ok {
		b.form = &bet
	}
	b.calls++
	if b.form == nil {
		return
	}
	for i, arg := range args {
		if i < len(b.form.Kinds) && !heldBy(b.form.Kinds[i], b.form.Ints, i, arg) {
			b.form = nil
			b.drops++
			return
		}
	}
	b.fast++
}

// heldBy tells if a bet of one kind holds of an argument.
func heldBy(kind int, ints []int64, place int, arg any) bool {
	ok := true
	switch kind {
	case api.Int:
		_, ok = arg.(int64)
	case api.String:
		_, ok = arg.(string)
	case api.Bool:
		_, ok = arg.(bool)
	case api.Null:
		ok = arg == nil
	case api.Array:
		_, ok = arg.(*array)
	case api.Same:
		// A place behind the list's end is as if a 0 stood there.
		padded := append(append([]int64{}, ints...), make([]int64, place+1)...)
		ok = arg == padded[place]
	}
	return ok
}

func length(v any, line int) int64 {
	switch v := v.(type) {
	case string:
		return int64(len(v))
	case *array:
		return int64(len(v.items))
	}
	panic(wrong{api.ErrType, line})
}

func indexed(of, place any, line int) any {
	size := length(of, line)
	number, ok := place.(int64)
	need(ok, api.ErrType, line)
	need(0 <= number && number < size, api.ErrIndex, line)
	if text, ok := of.(string); ok {
		return string(text[number])
	}
	return of.(*array).items[number]
}

func signed(sign scan.Kind, v any, line int) any {
	if sign == scan.Not {
		return !truth(v, line)
	}
	number, ok := v.(int64)
	need(ok, api.ErrType, line)
	return wrapped(new(big.Int).Neg(big.NewInt(number)))
}

// wrapped is what 64 bits keep of a number.
func wrapped(n *big.Int) int64 {
	whole := new(big.Int).Lsh(big.NewInt(1), 64)
	n = new(big.Int).Mod(n, whole)
	if n.Bit(63) == 1 {
		n.Sub(n, whole)
	}
	return n.Int64()
}

func (w *walker) binary(e *tree.Binary, in *scope) any {
	left := w.expr(e.Left, in)
	switch e.Sign {
	case scan.And:
		return truth(left, e.Line) && truth(w.expr(e.Right, in), e.Line)
	case scan.Or:
		return truth(left, e.Line) || truth(w.expr(e.Right, in), e.Line)
	}
	right := w.expr(e.Right, in)
	switch e.Sign {
	case scan.Equal:
		return left == right
	case scan.NotEqual:
		return left != right
	}
	if one, ok := left.(string); ok {
		if two, ok := right.(string); ok {
			return ofStrings(e, one, two)
		}
	}
	one, isInt := left.(int64)
	two, areInts := right.(int64)
	need(isInt && areInts, api.ErrType, e.Line)
	return ofInts(e, big.NewInt(one), big.NewInt(two))
}

func ofStrings(e *tree.Binary, one, two string) any {
	switch e.Sign {
	case scan.Plus:
		need(len(one+two) <= api.MaxString, api.ErrMemory, e.Line)
		return one + two
	case scan.Less:
		return one < two
	case scan.LessEqual:
		return one <= two
	case scan.Greater:
		return one > two
	case scan.GreaterEqual:
		return one >= two
	}
	panic(wrong{api.ErrType, e.Line})
}

func ofInts(e *tree.Binary, one, two *big.Int) any {
	n := new(big.Int)
	switch e.Sign {
	case scan.Less:
		return one.Cmp(two) < 0
	case scan.LessEqual:
		return one.Cmp(two) <= 0
	case scan.Greater:
		return one.Cmp(two) > 0
	case scan.GreaterEqual:
		return one.Cmp(two) >= 0
	case scan.Plus:
		return wrapped(n.Add(one, two))
	case scan.Minus:
		return wrapped(n.Sub(one, two))
	case scan.Times:
		return wrapped(n.Mul(one, two))
	}
	need(two.Sign() != 0, api.ErrDivide, e.Line)
	if e.Sign == scan.Divide {
		return wrapped(n.Quo(one, two))
	}
	return wrapped(n.Rem(one, two))
}
