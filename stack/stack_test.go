package stack

import "testing"

func TestOrder(t *testing.T) {
	var s Stack[string]
	for _, v := range []string{"a", "b", "c"} {
		s.Push(v)
	}
	if s.Len() != 3 || s.Top() != "c" || s.At(0) != "a" {
		t.Errorf("Len %d, Top %q, At(0) %q", s.Len(), s.Top(), s.At(0))
	}
	for _, want := range []string{"c", "b", "a"} {
		if got := s.Pop(); got != want {
			t.Errorf("Pop = %q, want %q", got, want)
		}
	}
}

func TestEmpty(t *testing.T) {
	var s Stack[int]
	if s.Pop() != 0 || s.Top() != 0 || s.At(0) != 0 || s.At(-1) != 0 || s.Len() != 0 {
		t.Error("an empty stack answers something else than zeros")
	}
}

func TestCut(t *testing.T) {
	var s Stack[int]
	for i := range 5 {
		s.Push(i)
	}
	for _, c := range []struct{ length, want int }{{7, 5}, {-1, 5}, {5, 5}, {2, 2}, {0, 0}} {
		s.Cut(c.length)
		if s.Len() != c.want {
			t.Errorf("Cut(%d) leaves %d, want %d", c.length, s.Len(), c.want)
		}
	}
}

func TestPut(t *testing.T) {
	var s Stack[int]
	s.Put(0, 7)
	s.Push(1)
	s.Push(2)
	s.Put(0, 3)
	s.Put(2, 4)
	s.Put(-1, 5)
	if s.Len() != 2 || s.At(0) != 3 || s.At(1) != 2 {
		t.Errorf("Len %d, At(0) %d, At(1) %d, want 2, 3, 2", s.Len(), s.At(0), s.At(1))
	}
}
