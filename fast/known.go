package fast

import "gambit/value"

// known is what is known of a value ahead of the run; its zero value is nothing.
type known struct {
	kind  bool // that it is of the kind of like
	whole bool // that it is like itself
	like  value.Value
}

func ofKind(kind value.Kind) known {
	return known{kind: true, like: value.Value{Kind: kind}}
}

func itself(v value.Value) known {
	return known{kind: true, whole: true, like: v}
}

// is tells if what is known holds of a value.
func (k known) is(v value.Value) bool {
	if k.whole {
		return v == k.like
	}
	return !k.kind || v.Kind == k.like.Kind
}

// sure tells if a value is known to be of a kind.
func (k known) sure(kind value.Kind) bool {
	return k.kind && k.like.Kind == kind
}
