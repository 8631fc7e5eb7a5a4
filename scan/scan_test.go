package scan

import (
	"strings"
	"testing"

	"gambit/api"
)

func one(t *testing.T, text string) Token {
	t.Helper()
	tokens, fault := Scan(text)
	if fault.Code != api.OK || len(tokens) != 2 || tokens[1].Kind != End {
		t.Fatalf("Scan(%q) = %v, %v, want one token", text, tokens, fault)
	}
	return tokens[0]
}

func TestWordsAndSigns(t *testing.T) {
	for i, text := range strings.Fields("fn let if else while return break continue print true false null len push ( ) { } [ ] , ; = == ! != < <= > >= + - * / % && ||") {
		if got, want := one(t, text).Kind, Fn+Kind(i); got != want {
			t.Errorf("%q is of kind %d, want %d", text, got, want)
		}
	}
}

func TestValues(t *testing.T) {
	for _, c := range []struct {
		text string
		want Token
	}{
		{"a", Token{Kind: Name, Line: 1, Text: "a"}},
		{"Z_9z", Token{Kind: Name, Line: 1, Text: "Z_9z"}},
		{"lets", Token{Kind: Name, Line: 1, Text: "lets"}},
		{"Let", Token{Kind: Name, Line: 1, Text: "Let"}},
		{"abcdefghijklmnop", Token{Kind: Name, Line: 1, Text: "abcdefghijklmnop"}},
		{"0", Token{Kind: Int, Line: 1}},
		{"9223372036854775807", Token{Kind: Int, Line: 1, Value: 9223372036854775807}},
		{"00000000000000000000007", Token{Kind: Int, Line: 1, Value: 7}},
		{`""`, Token{Kind: String, Line: 1}},
		{`"a // ~"`, Token{Kind: String, Line: 1, Text: "a // ~"}},
		{`"\"\\\n"`, Token{Kind: String, Line: 1, Text: "\"\\\n"}},
		{"\n\t // x\n a", Token{Kind: Name, Line: 3, Text: "a"}},
	} {
		if got := one(t, c.text); got != c.want {
			t.Errorf("Scan(%q) = %+v, want %+v", c.text, got, c.want)
		}
	}
}

func TestLongest(t *testing.T) {
	for _, c := range []struct {
		text string
		want []Kind
	}{
		{"===", []Kind{Equal, Assign, End}},
		{"!==", []Kind{NotEqual, Assign, End}},
		{"=!", []Kind{Assign, Not, End}},
		{"<==>", []Kind{LessEqual, Assign, Greater, End}},
		{"< =", []Kind{Less, Assign, End}},
		{"/ /", []Kind{Divide, Divide, End}},
		{"///", []Kind{End}},
		{"1x", []Kind{Int, Name, End}},
		{"1let", []Kind{Int, Let, End}},
		{"x1", []Kind{Name, End}},
		{`a"b"c`, []Kind{Name, String, Name, End}},
		{"&&||", []Kind{And, Or, End}},
	} {
		tokens, fault := Scan(c.text)
		if fault.Code != api.OK || len(tokens) != len(c.want) {
			t.Errorf("Scan(%q) = %v, %v", c.text, tokens, fault)
			continue
		}
		for i, token := range tokens {
			if token.Kind != c.want[i] {
				t.Errorf("Scan(%q): token %d is of kind %d, want %d", c.text, i, token.Kind, c.want[i])
			}
		}
	}
}

// Of each byte: where it may stand.
func TestBytes(t *testing.T) {
	for b := range 256 {
		stands := b == 9 || b == 10 || 32 <= b && b <= 126
		_, fault := Scan("// " + string([]byte{byte(b)}))
		if (fault.Code == api.OK) != stands {
			t.Errorf("byte %d in a comment: %v", b, fault)
		}
		_, fault = Scan(`"` + string([]byte{byte(b)}) + `"`)
		if (fault.Code == api.OK) != (32 <= b && b <= 126 && b != '"' && b != '\\') {
			t.Errorf("byte %d in a string: %v", b, fault)
		}
		_, fault = Scan(`"\` + string([]byte{byte(b)}) + `"`)
		if (fault.Code == api.OK) != (b == '"' || b == '\\' || b == 'n') {
			t.Errorf("byte %d behind a backslash: %v", b, fault)
		}
		_, fault = Scan(string([]byte{byte(b)}))
		if (fault.Code == api.OK) != (stands && !strings.ContainsRune("\"#$&'.:?@\\^_`|~", rune(b))) {
			t.Errorf("byte %d alone: %v", b, fault)
		}
	}
}

func TestNoTokens(t *testing.T) {
	for _, c := range []struct {
		text string
		line int
	}{
		{"a\nabcdefghijklmnopq", 2},
		{"\n\n9223372036854775808", 3},
		{"99999999999999999999999999", 1},
		{"\"a\n\"", 1},
		{"\n\"a", 2},
		{"\n\"a\\\n\"", 2},
		{"\n\"a\\", 2},
		{"\n\"\\t\"\n?", 2},
		{"\n// \x80\n", 2},
		{"// ?\n?", 2},
		{"&\n|", 1},
		{"a\r\nb", 1},
	} {
		tokens, fault := Scan(c.text)
		if tokens != nil || fault != (api.Fault{Code: api.ErrSyntax, Line: c.line}) {
			t.Errorf("Scan(%q) = %v, %v, want ErrSyntax in line %d", c.text, tokens, fault, c.line)
		}
	}
}
