package value

import (
	"math"
	"strings"
	"testing"

	"gambit/api"
)

func listOf(items ...Value) Value { return OfList(&List{Items: items}) }

func TestLine(t *testing.T) {
	own := &List{}
	own.Items = []Value{OfInt(1), OfList(own)}
	for _, c := range []struct {
		value Value
		want  string
	}{
		{Value{}, "null"},
		{OfBool(true), "true"},
		{OfBool(false), "false"},
		{OfInt(math.MinInt64), "-9223372036854775808"},
		{OfString("a,\n"), "a,\n"},
		{listOf(), "[]"},
		{listOf(OfString(""), Value{}, listOf(OfInt(2))), "[,null,[2]]"},
		{listOf(listOf(listOf(listOf(listOf(OfInt(1)), OfInt(2))))), "[[[[[..],2]]]]"},
		{OfList(own), "[1,[1,[1,[1,[..]]]]]"},
		{OfString(strings.Repeat("x", api.MaxLine)), strings.Repeat("x", api.MaxLine)},
	} {
		if got, ok := Line(c.value); got != c.want || !ok {
			t.Errorf("Line(%v) = %q, %v, want %q", c.value, got, ok, c.want)
		}
	}
}

func TestLinesTooLong(t *testing.T) {
	wide := &List{}
	for range api.MaxCells {
		wide.Items = append(wide.Items, OfList(wide))
	}
	for _, v := range []Value{OfString(strings.Repeat("x", api.MaxLine+1)), listOf(OfString(strings.Repeat("x", api.MaxLine-1))), OfList(wide)} {
		if got, ok := Line(v); got != "" || ok {
			t.Errorf("Line = %q, %v, want none", got, ok)
		}
	}
}

func TestSame(t *testing.T) {
	list := &List{}
	all := []Value{{}, OfBool(false), OfBool(true), OfInt(0), OfInt(1), OfString(""), OfString("0"), OfList(list), listOf()}
	for i, one := range all {
		for j, two := range all {
			if (one == two) != (i == j) {
				t.Errorf("%v == %v is %v", one, two, one == two)
			}
		}
	}
	list.Items = append(list.Items, OfInt(1))
	if OfList(list) != all[7] {
		t.Error("a list is not the same once it was changed")
	}
}
