package lex_test

import (
	"math"
	"math/big"
	"regexp"
	"slices"
	"strconv"
	"strings"
	"testing"

	"noria/api"
	"noria/lex"
)

func low(s string, at int) lex.Token {
	return lex.Token{Kind: lex.Low, S: s, At: at}
}

func high(s string, at int) lex.Token {
	return lex.Token{Kind: lex.High, S: s, At: at}
}

func num(s string, n int64, at int) lex.Token {
	return lex.Token{Kind: lex.Num, S: s, N: n, At: at}
}

func path(s string, at int) lex.Token {
	return lex.Token{Kind: lex.Path, S: s, At: at}
}

func mark(s string, at int) lex.Token {
	return lex.Token{Kind: lex.Mark, S: s, At: at}
}

func end(at int) lex.Token {
	return lex.Token{Kind: lex.End, At: at}
}

// value is the number that digits are, if there is such a one.
func value(digits string) (int64, bool) {
	n, ok := new(big.Int).SetString(digits, 10)
	if !ok || !n.IsInt64() {
		return 0, false
	}
	return n.Int64(), true
}

// moved tells tokens n bytes further on.
func moved(l []lex.Token, n int) []lex.Token {
	m := slices.Clone(l)
	for i := range m {
		m[i].At += n
	}
	return m
}

// some are the first of many tokens.
func some(l []lex.Token) []lex.Token {
	return l[:min(len(l), 20)]
}

// asks holds what All tells of s and most against what is wanted.
func asks(t *testing.T, s string, most int, want []lex.Token, at int, err api.Errno) {
	t.Helper()
	l, p, e := lex.All(s, most)
	if !slices.Equal(l, want) || p != at || e != err {
		t.Errorf("All(%.100q, %d): %d: %v, %d, %d, not %d: %v, %d, %d", s, most, len(l), some(l), p, e, len(want), some(want), at, err)
	}
}

// has holds the tokens of s against l, and an End.
func has(t *testing.T, s string, l ...lex.Token) {
	t.Helper()
	l = append(slices.Clone(l), end(len(s)))
	asks(t, s, len(s), l, len(s), api.OK)
	asks(t, s, math.MaxInt, l, len(s), api.OK)
}

// none asks that at a place of s no token begins, whatever stands ahead.
func none(t *testing.T, s string, at int) {
	t.Helper()
	const ahead = "x := -1; -- y\n"
	asks(t, s, len(s), nil, at, api.ErrText)
	asks(t, s, math.MaxInt, nil, at, api.ErrText)
	asks(t, ahead+s, math.MaxInt, nil, len(ahead)+at, api.ErrText)
}

// words are the language's.
func words() []string {
	return strings.Split("node returns var let tel enum if then else fby pre when merge every not and or xor mod true false int bool with", " ")
}

// marks are the marks, as the chapter has them.
func marks() []string {
	return strings.Split(":= -> <= >= <> ( ) { } [ ] , ; : = < > + - * /", " ")
}

func lows() []string {
	return []string{"a", "z", "x9", "a_", "a_1", "a__", "aB", "zZ09_", "nodes", "nod", "if0", "if_", "oR", "abcdefghijkl", "z_0123456789", "a___________"}
}

func highs() []string {
	return []string{"A", "Z", "X9", "A_", "A_1", "A__", "Ab", "Zz09_", "Node", "NODE", "True", "If", "ABCDEFGHIJKL", "Z_0123456789", "A00000000000"}
}

func nums() []string {
	return []string{"0", "1", "9", "10", "12", "99", "100", "1000000", "4294967295", "4294967296", "9007199254740993", "9223372036854775806", "9223372036854775807"}
}

// noNums are digits that are no number that may be.
func noNums() []string {
	return []string{
		"9223372036854775808", "9223372036854775809", "9223372036854775810", "9999999999999999999", "10000000000000000000",
		"18446744073709551615", "18446744073709551616", "18446744073709551617", "36893488147419103233", "340282366920938463463374607431768211457",
		"00", "01", "007", "000", "00000000000000000000", "00000000000000000001", "09223372036854775807",
		strings.Repeat("9", 100000), "1" + strings.Repeat("0", 100000), strings.Repeat("0", 100000), "0" + strings.Repeat("1", 100),
	}
}

func paths() []string {
	return []string{"a", "a/b.12", "a.1", "a.999", "z_0/a_", "abcdefghijkl.999", "a/b/c/d/e", "abcdefghijkl.999/abcdefghijkl.999", "a/a", "nodes/ifs.1"}
}

// noPaths are no paths; no quote is in them.
func noPaths() []string {
	return []string{
		"", " ", "/", "//", ".", "A", "Ab", "0", "1", "_", "_a", "9a", "node", "or", "a/or", "or/a", "if.1", "a/", "/a", "a//b",
		"a.0", "a.00", "a.01", "a.1000", "a.", "a.b", "a.1.1", "a/A", "a/1", "abcdefghijklm", "a/abcdefghijklm.1",
		"a b", " a", "a ", "a\n", "\na", "a\nb", "a\tb", "a/ b", "a\r", "a-b", "a--b", "-- a", "a -- b", "a:=b", "a,b", "a;", "\"a\"", "a+1",
		"\x00", "a\x00", "\u00e4", "a\u00e4", "a/\u00e4", "\x80", "a\xff",
	}
}

// samples are tokens of each kind, each one at 0.
func samples() []lex.Token {
	var l []lex.Token
	for _, s := range slices.Concat(words(), lows()) {
		l = append(l, low(s, 0))
	}
	for _, s := range highs() {
		l = append(l, high(s, 0))
	}
	for _, s := range nums() {
		n, _ := value(s)
		l = append(l, num(s, n, 0))
	}
	for _, s := range paths() {
		l = append(l, path(s, 0))
	}
	for _, s := range marks() {
		l = append(l, mark(s, 0))
	}
	return l
}

// written is a token as it stands in a text.
func written(k lex.Token) string {
	if k.Kind == lex.Path {
		return "'" + k.S + "'"
	}
	return k.S
}

// between are blanks, of all kinds.
func between() []string {
	return []string{" ", "\t", "\n", "\r", "  ", "\r\n", " \t\n\r ", "--\n", "-- it's 'a' 00 := \u00e4\xff\x00\n", " -- a -- b\r\tc\n", "--1\n--2\n", "---\n\n----->\n"}
}

// P8.1, P8.2: the chapter's example.
func TestExample(t *testing.T) {
	want := []lex.Token{low("x", 0), mark(":=", 2), mark("-", 5), num("1", 1, 6), mark(";", 7)}
	has(t, "x := -1; -- y", want...)
	has(t, "x := -1; -- y\n", want...)
	has(t, "x:=-1;--y\nz", low("x", 0), mark(":=", 1), mark("-", 3), num("1", 1, 4), mark(";", 5), low("z", 10))
}

// P8.1: the kinds have the numbers that the chapter gives.
func TestKinds(t *testing.T) {
	if l := [...]int{lex.Low, lex.High, lex.Num, lex.Path, lex.Mark, lex.End}; l != [...]int{1, 2, 3, 4, 5, 6} {
		t.Errorf("the kinds are %v", l)
	}
}

// P8.1, P8.2: lines of programs and of migrations are told token by token.
func TestLines(t *testing.T) {
	has(t, "node f(a: int) returns (n: int[2]) -- f\nlet\n  n = [0, 1] fby n; -- n's\ntel\n",
		low("node", 0), low("f", 5), mark("(", 6), low("a", 7), mark(":", 8), low("int", 10), mark(")", 13), low("returns", 15), mark("(", 23),
		low("n", 24), mark(":", 25), low("int", 27), mark("[", 30), num("2", 2, 31), mark("]", 32), mark(")", 33), low("let", 40),
		low("n", 46), mark("=", 48), mark("[", 50), num("0", 0, 51), mark(",", 52), num("1", 1, 54), mark("]", 55), low("fby", 57), low("n", 61), mark(";", 62), low("tel", 71))
	has(t, "enum way { Up, Down };", low("enum", 0), low("way", 5), mark("{", 9), high("Up", 11), mark(",", 13), high("Down", 15), mark("}", 20), mark(";", 21))
	has(t, "'a/n.1' := 'n' * 10 <> (x->y);", path("a/n.1", 0), mark(":=", 8), path("n", 11), mark("*", 15), num("10", 10, 17), mark("<>", 20), mark("(", 23), low("x", 24), mark("->", 25), low("y", 27), mark(")", 28), mark(";", 29))
}

// P8.1, P8.2: each token is told alone, and with blanks of all kinds around it.
func TestEachToken(t *testing.T) {
	for _, k := range samples() {
		s := written(k)
		has(t, s, k)
		for _, b := range between() {
			has(t, b+s, moved([]lex.Token{k}, len(b))...)
			if s != "-" || b[0] != '-' {
				has(t, s+b, k)
				has(t, b+s+b, moved([]lex.Token{k}, len(b))...)
			}
		}
		has(t, s+" --", k)
		has(t, s+" -- '", k)
	}
}

// P8.1, P8.2: of each two tokens with blanks between both are told.
func TestEachTwo(t *testing.T) {
	for _, a := range samples() {
		for _, b := range samples() {
			for _, c := range between() {
				// With a - right ahead the remark begins one byte sooner.
				if a.S != "-" || c[0] != '-' {
					has(t, written(a)+c+written(b), append([]lex.Token{a}, moved([]lex.Token{b}, len(written(a)+c))...)...)
				}
			}
		}
	}
}

// P8.1: there are just these blanks; a remark goes up to the next byte 10, or the end.
func TestBlanks(t *testing.T) {
	for _, s := range append(between(), "", "\t\n\r ", "    ", "--", "-- ", "--a", "-- 'a", "-- \x00\x0b\xff", "----", "--->", "-- a -- b", "-- a\n-- b", "--\n--\n--", "\n\n--\r\r", "--\r\n--", " \r\n\t-- \u00e4\n ") {
		has(t, s)
	}
	has(t, "a -- b\rc\td\n", low("a", 0))
	has(t, "a -- b\rc\nd", low("a", 0), low("d", 9))
	has(t, "--a\n--b\nc--d\ne--", low("c", 8), low("e", 13))
	has(t, "-- \u00e4\u2028\U0001f600\nx", low("x", 13))
	has(t, "-- \u00e4\n'a'\n--\u00e4\n1", path("a", 6), num("1", 1, 15))
	for _, s := range []string{"\x0b", "\x0c", "\x00", "\x1c", "\x1f", "\x85", "\xa0", "\u0085", "\u00a0", "\u2003", "\u2028", "\u3000", "\ufeff"} {
		none(t, s, 0)
		none(t, " "+s, 1)
		none(t, "a"+s+"b", 1)
		none(t, "-- a"+s+"\n"+s, len("-- a"+s+"\n"))
	}
}

// one is the token that a byte is alone; of one that is none its Kind is 0.
func one(b byte) lex.Token {
	s := string([]byte{b})
	switch {
	case 'a' <= b && b <= 'z':
		return low(s, 0)
	case 'A' <= b && b <= 'Z':
		return high(s, 0)
	case '0' <= b && b <= '9':
		return num(s, int64(b-'0'), 0)
	case strings.Contains("(){}[],;:=<>+-*/", s):
		return mark(s, 0)
	}
	return lex.Token{}
}

// blank tells whether a byte is a blank.
func blank(b byte) bool {
	return b == 9 || b == 10 || b == 13 || b == 32
}

// P8.1, P8.2: of all bytes just these are blank, or begin a token.
func TestBytes(t *testing.T) {
	for b := range 256 {
		s := string([]byte{byte(b)})
		k := one(byte(b))
		switch {
		case blank(byte(b)):
			has(t, s)
			has(t, "Up"+s+"1", high("Up", 0), num("1", 1, 3))
		case k.Kind != 0:
			has(t, s, k)
			has(t, "a "+s+" ", append([]lex.Token{low("a", 0)}, moved([]lex.Token{k}, 2)...)...)
		default:
			for _, behind := range []string{"", "a", "A", "1", " ", "\n", ";", "'", "-- '", "\x00", "\xff"} {
				none(t, s+behind, 0)
				none(t, " "+s+behind, 1)
				none(t, "a;"+s+behind, 2)
			}
		}
	}
}

// P8.1: a name goes on as long as there are letters, digits and underscores, and no further.
func TestNameEnds(t *testing.T) {
	for b := range 256 {
		c := string([]byte{byte(b)})
		k := one(byte(b))
		switch {
		case c == "_" || k.Kind == lex.Low || k.Kind == lex.High || k.Kind == lex.Num:
			has(t, "x"+c, low("x"+c, 0))
			has(t, "x"+c+"0", low("x"+c+"0", 0))
			has(t, "X"+c, high("X"+c, 0))
			has(t, "X"+c+"a", high("X"+c+"a", 0))
		case k.Kind == lex.Mark:
			has(t, "x"+c, low("x", 0), mark(c, 1))
			has(t, "X"+c+"y", high("X", 0), mark(c, 1), low("y", 2))
		case blank(byte(b)):
			has(t, "x"+c, low("x", 0))
			has(t, "X"+c+"y", high("X", 0), low("y", 2))
		default:
			none(t, "x"+c, 1)
			none(t, "X"+c+"y", 1)
		}
	}
}

// P8.1: a word is a Low; with a byte more it is a name, with a great letter a High.
func TestWords(t *testing.T) {
	if len(words()) != 24 {
		t.Fatalf("there are %d words, not 24", len(words()))
	}
	for _, w := range words() {
		has(t, w, low(w, 0))
		has(t, w+w[:1], low(w+w[:1], 0))
		has(t, w+"_", low(w+"_", 0))
		has(t, w+"1", low(w+"1", 0))
		great := strings.ToUpper(w[:1]) + w[1:]
		has(t, great, high(great, 0))
		has(t, strings.ToUpper(w), high(strings.ToUpper(w), 0))
		has(t, w+" "+w, low(w, 0), low(w, len(w)+1))
		has(t, w+"-"+w, low(w, 0), mark("-", len(w)), low(w, len(w)+1))
		has(t, w+"'a'", low(w, 0), path("a", len(w)))
		none(t, "_"+w, 0)
		none(t, "'"+w+"'", 0)
	}
	has(t, "notx", low("notx", 0))
	has(t, "not x", low("not", 0), low("x", 4))
	has(t, "iftrue", low("iftrue", 0))
}

// P8.1: names have up to MaxName bytes; where one is longer none begins, not even with a part of it.
func TestNameLengths(t *testing.T) {
	for n := 1; n <= 40; n++ {
		for _, c := range "az_09AZ" {
			tail := strings.Repeat(string(c), n-1)
			if n <= api.MaxName {
				has(t, "y"+tail, low("y"+tail, 0))
				has(t, "Y"+tail, high("Y"+tail, 0))
				has(t, "y"+tail+";", low("y"+tail, 0), mark(";", n))
				has(t, " Y"+tail+"\n", high("Y"+tail, 1))
				continue
			}
			none(t, "y"+tail, 0)
			none(t, "Y"+tail, 0)
			none(t, "y"+tail+" z", 0)
			none(t, "a Y"+tail+";", 2)
		}
	}
	none(t, strings.Repeat("a", 1<<20), 0)
	none(t, "a:"+strings.Repeat("B", 1<<20), 2)
}

// P8.1: an underscore begins no name, and what is no letter of ASCII is in none.
func TestWrongNames(t *testing.T) {
	for _, s := range []string{"_", "__", "_a", "_A", "_1", "\u00e4", "\u00c4", "\u00e4a", "\u03b1", "\u0391", "\uff41", "\uff21", "\u212a", "\u017f", "\u2160", "\U0001f600", "\xe4", "\xc3", "\x80a"} {
		none(t, s, 0)
		none(t, "1"+s, 1)
		none(t, "a "+s, 2)
		none(t, "'a'"+s, 3)
		if s[0] != '_' {
			none(t, "a"+s, 1)
			none(t, "A"+s+"b", 1)
			none(t, "abcdefghijkl"+s, 12)
		}
	}
	for at, s := range []string{"$a", "a.b", "a & b", "if|then", "a :=!b", "a[1]?", "x = a%b"} {
		none(t, s, []int{0, 1, 2, 2, 4, 4, 5}[at])
	}
}

// P8.1: a number is from 0 to 2^63 - 1, and has no nought ahead.
func TestNumbers(t *testing.T) {
	for _, s := range nums() {
		n, ok := value(s)
		if !ok {
			t.Fatalf("%q is none", s)
		}
		has(t, s, num(s, n, 0))
		has(t, "-"+s, mark("-", 0), num(s, n, 1))
	}
	has(t, "9223372036854775807", num("9223372036854775807", math.MaxInt64, 0))
	for n := range 3000 {
		s := strconv.Itoa(n)
		has(t, s, num(s, int64(n), 0))
		none(t, "0"+s, 0)
		none(t, "00"+s, 0)
		none(t, "- 0"+s, 2)
	}
	for _, s := range noNums() {
		none(t, s, 0)
		none(t, "-"+s, 1)
		none(t, s+" 1", 0)
		none(t, "a["+s+"]", 2)
		none(t, s+"a", 0)
	}
}

// P8.1: a number ends with its digits, whatever stands right behind.
func TestNumberEnds(t *testing.T) {
	has(t, "1a", num("1", 1, 0), low("a", 1))
	has(t, "1A", num("1", 1, 0), high("A", 1))
	has(t, "0a", num("0", 0, 0), low("a", 1))
	has(t, "0x1F", num("0", 0, 0), low("x1F", 1))
	has(t, "12e3", num("12", 12, 0), low("e3", 2))
	has(t, "9223372036854775807a", num("9223372036854775807", math.MaxInt64, 0), low("a", 19))
	has(t, "1mod2", num("1", 1, 0), low("mod2", 1))
	has(t, "1mod 2", num("1", 1, 0), low("mod", 1), num("2", 2, 5))
	has(t, "1 0", num("1", 1, 0), num("0", 0, 2))
	has(t, "1'a'2", num("1", 1, 0), path("a", 1), num("2", 2, 4))
	has(t, "1->2", num("1", 1, 0), mark("->", 1), num("2", 2, 3))
	has(t, "1-2", num("1", 1, 0), mark("-", 1), num("2", 2, 2))
	has(t, "1--2", num("1", 1, 0))
	has(t, "+1,-1", mark("+", 0), num("1", 1, 1), mark(",", 2), mark("-", 3), num("1", 1, 4))
	for _, s := range []string{"1_", "1_000", "1.5", "1abcdefghijklm", "1\u0661", "1\x00"} {
		none(t, s, 1)
	}
	for _, s := range []string{"\u0661", "\uff11", "\u00b2", "\xb2"} {
		none(t, s, 0)
	}
}

// P8.1: a name goes on over digits; a quote and a mark end it.
func TestTouching(t *testing.T) {
	has(t, "a1", low("a1", 0))
	has(t, "a00", low("a00", 0))
	has(t, "A01", high("A01", 0))
	has(t, "aB", low("aB", 0))
	has(t, "Ab", high("Ab", 0))
	has(t, "a'b'", low("a", 0), path("b", 1))
	has(t, "a'b'c", low("a", 0), path("b", 1), low("c", 4))
	has(t, "'a''b'", path("a", 0), path("b", 3))
	has(t, "'a'1'b'", path("a", 0), num("1", 1, 3), path("b", 4))
	has(t, "'a'B", path("a", 0), high("B", 3))
	has(t, "'a/b':='a/b';", path("a/b", 0), mark(":=", 5), path("a/b", 7), mark(";", 12))
	has(t, "a:=b", low("a", 0), mark(":=", 1), low("b", 3))
	has(t, "Up(a)", high("Up", 0), mark("(", 2), low("a", 3), mark(")", 4))
	has(t, "x[1]<>y", low("x", 0), mark("[", 1), num("1", 1, 2), mark("]", 3), mark("<>", 4), low("y", 6))
	has(t, "a--b", low("a", 0))
	has(t, "a--b\nc", low("a", 0), low("c", 5))
	has(t, "a-\n-b", low("a", 0), mark("-", 1), mark("-", 3), low("b", 4))
	has(t, "'a'--'b", path("a", 0))
}

// row makes tokens of marks that stand side by side.
func row(l ...string) []lex.Token {
	var m []lex.Token
	at := 0
	for _, s := range l {
		m = append(m, mark(s, at))
		at += len(s)
	}
	return m
}

// P8.1: of marks the longest that there is counts; two - begin a remark.
func TestMarks(t *testing.T) {
	for _, l := range [][]string{
		{":=", "="}, {":", ":="}, {":", ":"}, {":", "->"}, {":", ">"}, {":", "<="}, {":=", "-"}, {":=", "->"},
		{"<=", ">"}, {"<=", "="}, {"<=", "->"}, {"<>", "="}, {"<>", ">"}, {"<", "<="}, {"<", "<>"}, {"<", "<", "->"}, {"<", "-"}, {"<", ":="}, {"<>", "<>", "<="},
		{">", ">="}, {">=", ">"}, {">=", "="}, {">=", ">="}, {">", "<>"}, {">", "->"}, {">", "-"},
		{"=", ">"}, {"=", "<"}, {"=", "->"}, {"=", ":"}, {"=", ":="}, {"=", "="},
		{"->", ">"}, {"->", "->"}, {"->", "-"}, {"->", ">="}, {"->", "="}, {"-", "="}, {"-", "<"}, {"-", "<", "-"}, {"-", ":="},
		{"/", "/"}, {"*", "*"}, {"+", "+"}, {"/", "*"}, {"(", ")"}, {"[", "]"}, {"+", "-"}, {"*", "-"}, {";", ";"},
		{":=", "->", "<=", ">=", "<>", "(", ")", "{", "}", "[", "]", ",", ";", ":", ";", "=", "<", "+", ">", "+", "-", "*", "/"},
	} {
		has(t, strings.Join(l, ""), row(l...)...)
	}
	has(t, ": =", mark(":", 0), mark("=", 2))
	has(t, ":\n=", mark(":", 0), mark("=", 2))
	has(t, "- >", mark("-", 0), mark(">", 2))
	has(t, "< =", mark("<", 0), mark("=", 2))
	has(t, "> =", mark(">", 0), mark("=", 2))
	has(t, "< >", mark("<", 0), mark(">", 2))
	has(t, ":--\n=", mark(":", 0), mark("=", 4))
	has(t, "-", mark("-", 0))
	has(t, "- -", mark("-", 0), mark("-", 2))
	has(t, "--")
	has(t, "---")
	has(t, "-->")
	has(t, "-->\n->", mark("->", 4))
	has(t, "->--", mark("->", 0))
	has(t, "<--1\n2", mark("<", 0), num("2", 2, 5))
	has(t, ":=--=\n=", mark(":=", 0), mark("=", 6))
}

// P8.1: a path is a path of ident, with a quote on both sides; nothing else stands between them.
func TestPaths(t *testing.T) {
	for _, s := range paths() {
		has(t, "'"+s+"'", path(s, 0))
		has(t, "('"+s+"')", mark("(", 0), path(s, 1), mark(")", len(s)+3))
		for _, w := range []string{"'" + s, "'" + s + " '", "' " + s + "'", "'" + s + "\n'", "'" + s + "/'", "'/" + s + "'", "''" + s + "''", "\"" + s + "\""} {
			none(t, w, 0)
			none(t, "'a'"+w, 3)
		}
	}
	for _, s := range noPaths() {
		none(t, "'"+s+"'", 0)
		none(t, "'"+s, 0)
		none(t, "1 '"+s+"' b", 2)
		none(t, "'a/b'\n'"+s+"'", 6)
	}
	for _, s := range []string{"'", "''", "'''", "''''", "' '", "'\n'", "'a", "'a/b.1", "'a\n", "'a\nb'", "'\u00e4'"} {
		none(t, s, 0)
	}
	none(t, "'a'b'", 4)
	none(t, "'a''", 3)
	none(t, "'a'b'c' 'd", 8)
	none(t, "a'", 1)
}

// P8.1, P8.2: a path may have as many parts as the text has room for; one part that is none spoils it.
func TestLongPaths(t *testing.T) {
	const part = "abcdefghijkl.999"
	for _, n := range []int{1, 2, 100, 352, 20000} {
		l := slices.Repeat([]string{part}, n)
		has(t, "'"+strings.Join(l, "/")+"'", path(strings.Join(l, "/"), 0))
		for _, at := range []int{0, n / 2, n - 1} {
			for _, s := range []string{"", "x" + part, part + "9", "A", "or", "a.0", "a b"} {
				w := slices.Clone(l)
				w[at] = s
				none(t, "'"+strings.Join(w, "/")+"'", 0)
			}
		}
	}
	s := strings.Repeat("a/", api.MaxText/2-2) + "aa" // with its quotes as long as a text may be
	if len(s) != api.MaxText-2 {
		t.Fatalf("the path has %d bytes", len(s))
	}
	asks(t, "'"+s+"'", api.MaxText, []lex.Token{path(s, 0), end(api.MaxText)}, api.MaxText, api.OK)
	asks(t, "'"+s+"a'", api.MaxText, nil, api.MaxText, api.ErrLong)
	asks(t, "'"+s[:len(s)-1]+"'", api.MaxText, []lex.Token{path(s[:len(s)-1], 0), end(api.MaxText - 1)}, api.MaxText-1, api.OK)
}

// P8.2: a text may have just most bytes; of a longer one nothing else is told, whatever is in it.
func TestMost(t *testing.T) {
	for _, s := range []string{"", "a", "x := -1; -- y", "    ", "--", "'a/b'", "1", "-- \u00e4", strings.Repeat("a ", api.MaxText/2)} {
		l, n, err := lex.All(s, len(s))
		if err != api.OK || n != len(s) || l[len(l)-1] != end(len(s)) {
			t.Errorf("All(%.50q, %d): %d, %d", s, len(s), n, err)
		}
		for _, more := range []int{len(s) + 1, len(s) + 2, 1 << 40, math.MaxInt} {
			asks(t, s, more, l, len(s), api.OK)
		}
		for _, fewer := range []int{len(s) - 1, len(s) - 2, len(s) / 2, 0, -1, -2, math.MinInt} {
			if fewer < len(s) {
				asks(t, s, fewer, nil, fewer, api.ErrLong)
			}
		}
	}
	asks(t, "", 0, []lex.Token{end(0)}, 0, api.OK)
	asks(t, "", -1, nil, -1, api.ErrLong)
	asks(t, "", math.MinInt, nil, math.MinInt, api.ErrLong)
	asks(t, " ", 0, nil, 0, api.ErrLong)
	asks(t, "_", 0, nil, 0, api.ErrLong)
	asks(t, "_", -5, nil, -5, api.ErrLong)
	asks(t, "\x00 a", 2, nil, 2, api.ErrLong)
	asks(t, "a \x00", 3, nil, 2, api.ErrText)
	asks(t, "a \x00", 2, nil, 2, api.ErrLong)
	asks(t, "\u00e4", 1, nil, 1, api.ErrLong)
	asks(t, "-- \u00e4", 4, nil, 4, api.ErrLong)
	asks(t, "-- \u00e4", 5, []lex.Token{end(5)}, 5, api.OK)
}

// P8.2: where no token begins nothing is told but the place, however many tokens stand ahead; the first such place counts.
func TestManyAhead(t *testing.T) {
	for _, n := range []int{0, 1, 2, 10, 100, 10000} {
		s := strings.Repeat("a1 'b/c' := -9; -- r\n", n)
		for _, w := range []string{"\x00", "_", "00", "9223372036854775808", "'", "''", "'a b'", "abcdefghijklm", "ABCDEFGHIJKLM", "\u00e4", "\xff", "\"", "."} {
			asks(t, s+w, math.MaxInt, nil, len(s), api.ErrText)
			asks(t, s+w+" "+w, math.MaxInt, nil, len(s), api.ErrText)
			asks(t, s+w+"\n"+s, math.MaxInt, nil, len(s), api.ErrText)
		}
		l, at, err := lex.All(s, len(s))
		if len(l) != 6*n+1 || at != len(s) || err != api.OK {
			t.Errorf("of %d lines there are %d tokens, %d, %d", n, len(l), at, err)
		}
	}
}

// P8.2: Quote tells paths with quotes, and nothing of what is none.
func TestQuote(t *testing.T) {
	for _, s := range append(append(paths(), lows()...), strings.Repeat("a/", 100000)+"b") {
		if q := lex.Quote(s); q != "'"+s+"'" {
			t.Errorf("Quote(%.50q) is %.50q", s, q)
		}
		has(t, lex.Quote(s), path(s, 0))
	}
	for _, s := range slices.Concat(noPaths(), words(), highs(), nums(), marks(), []string{"'", "''", "'a'", "a'", "'a", "a'b", "'a/b'"}) {
		if q := lex.Quote(s); q != "" {
			t.Errorf("Quote(%q) is %q", s, q)
		}
	}
}

// The patterns by which the tokens are read once more, beside All.
var (
	blankShape = regexp.MustCompile(`\A(?:[\t\n\r ]|--[^\n]*)`)
	shapes     = []*regexp.Regexp{
		nil,
		regexp.MustCompile(`\A[a-z][a-zA-Z0-9_]*`),
		regexp.MustCompile(`\A[A-Z][a-zA-Z0-9_]*`),
		regexp.MustCompile(`\A[0-9]+`),
		regexp.MustCompile(`\A'[^']*'`),
		regexp.MustCompile(`\A(?::=|->|<=|>=|<>|[(){}\[\],;:=<>+\-*/])`),
	}
	pathShape = regexp.MustCompile(`\A[a-z][a-zA-Z0-9_]{0,11}(\.[1-9][0-9]{0,2})?(/[a-z][a-zA-Z0-9_]{0,11}(\.[1-9][0-9]{0,2})?)*\z`)
)

// may tells whether what has the shape of a kind may be, and its token.
func may(kind int, s string) (lex.Token, bool) {
	k := lex.Token{Kind: kind, S: s}
	switch kind {
	case lex.Low, lex.High:
		return k, len(s) <= 12
	case lex.Num:
		n, ok := value(s)
		k.N = n
		return k, ok && (s == "0" || s[0] != '0')
	case lex.Path:
		k.S = s[1 : len(s)-1]
		for _, p := range strings.Split(k.S, "/") {
			name, _, _ := strings.Cut(p, ".")
			if slices.Contains(words(), name) {
				return k, false
			}
		}
		return k, pathShape.MatchString(k.S)
	}
	return k, true
}

// told tells, beside All, the tokens of s, and the place and the error.
func told(s string) ([]lex.Token, int, api.Errno) {
	var l []lex.Token
	for at := 0; at < len(s); {
		if b := blankShape.FindString(s[at:]); b != "" {
			at += len(b)
			continue
		}
		size := 0
		for kind := lex.Low; kind <= lex.Mark && size == 0; kind++ {
			w := shapes[kind].FindString(s[at:])
			if w == "" {
				continue
			}
			k, ok := may(kind, w)
			if !ok {
				return nil, at, api.ErrText
			}
			k.At = at
			l = append(l, k)
			size = len(w)
		}
		if size == 0 {
			return nil, at, api.ErrText
		}
		at += size
	}
	return append(l, end(len(s))), len(s), api.OK
}

// same holds what All tells of s against the patterns.
func same(t *testing.T, s string) {
	t.Helper()
	l, at, err := told(s)
	asks(t, s, len(s), l, at, err)
}

// P8.1, P8.2: of all short texts of chosen bytes All tells what the patterns tell.
func TestShortTexts(t *testing.T) {
	var all func(s string, of []string, more int)
	all = func(s string, of []string, more int) {
		same(t, s)
		for _, c := range of {
			if more > 0 {
				all(s+c, of, more-1)
			}
		}
	}
	all("", []string{"a", "A", "0", "1", "_", "-", ">", ":", "=", "<", "'", "/", ".", " ", "\n", "\x00", "\xc3", "or"}, 4)
	all("", []string{"-", ">", "<", "=", ":", "\n", " ", "a"}, 5)
	all("", []string{"'", "a", "/", ".", "1", "or"}, 6)
	all("", []string{"0", "9", "a", "_", " "}, 6)
	all("92233720368547758", []string{"0", "7", "8", "9", ";"}, 4)
}

// P8.1, P8.2: of tokens side by side, without blanks, All tells what the patterns tell.
func TestSideBySide(t *testing.T) {
	all := samples()
	for _, s := range append(noNums()[:12], "abcdefghijklm", "_", "'", "--", "\n", "\x00") {
		all = append(all, lex.Token{S: s})
	}
	for _, a := range all {
		for _, b := range all {
			same(t, written(a)+written(b))
		}
	}
	for _, a := range append(marks(), "--", "\n", "a") {
		for _, b := range marks() {
			for _, c := range append(marks(), "--", "\n", "a") {
				same(t, a+b+c)
			}
		}
	}
}

// texts are texts with tokens, and some without.
func texts() []string {
	return []string{
		"", " ", "\n", "\t\r\n", "a", "A", "0", "1", "9223372036854775807", "'a/b.1'", "-", "->", ":=", ":", "=", "<", ">", "/", "x := -1; -- y\n", "x := -1;\n\n", "-- r\n", "-- r\n-- s\n a",
		"node f(a: int) returns (n: int) let n = 0 fby n + a; tel", "enum way { Up, Down };", "  a\tb\r", "'a' := 'b';", "1a", "abcdefghijkl", "or", strings.Repeat("a, ", 500),
	}
}

// ended are texts with a remark at their end.
func ended() []string {
	return []string{"--", "-- r", "a --", "a-- 'b", "x := -1; -- y"}
}

// P8.3: places rise, up to the End, and each token stands where it says.
func TestPlacesRise(t *testing.T) {
	for _, s := range append(texts(), ended()...) {
		l, at, err := lex.All(s, len(s))
		if err != api.OK || at != len(s) || len(l) == 0 || l[len(l)-1] != end(len(s)) {
			t.Fatalf("All(%.50q): %v, %d, %d", s, some(l), at, err)
		}
		for i, k := range l[:len(l)-1] {
			if k.At >= l[i+1].At || k.At < 0 {
				t.Errorf("of %.50q the places %d and %d do not rise", s, k.At, l[i+1].At)
			}
			if !strings.HasPrefix(s[k.At:], written(k)) {
				t.Errorf("of %.50q %v does not stand at its place", s, k)
			}
		}
	}
}

// P8.3: two texts with a line feed between have the tokens of the first, but its End, and those of the second, moved.
func TestTwoTexts(t *testing.T) {
	// The line feed ends a remark, too: so it goes for texts with one at their end as well.
	for _, a := range append(texts(), ended()...) {
		for _, b := range append(texts(), ended()...) {
			l, _, e := lex.All(a, len(a))
			m, _, f := lex.All(b, len(b))
			if e != api.OK || f != api.OK {
				t.Fatalf("%.50q: %d, %.50q: %d", a, e, b, f)
			}
			s := a + "\n" + b
			asks(t, s, len(s), append(slices.Clone(l[:len(l)-1]), moved(m, len(a)+1)...), len(s), api.OK)
		}
	}
}

// P8.2, P8.3: where in one of two texts no token begins, none begins there in both.
func TestTwoTextsWrong(t *testing.T) {
	for _, a := range texts() {
		for _, w := range []string{"_", "a _", "00", "'", "'a", "a 'b", "''", "\x00", "1 2 ABCDEFGHIJKLM", "-- r\n\u00e4"} {
			_, at, err := lex.All(w, len(w))
			if err != api.ErrText {
				t.Fatalf("%q: %d", w, err)
			}
			asks(t, a+"\n"+w, math.MaxInt, nil, len(a)+1+at, api.ErrText)
			asks(t, w+"\n"+a, math.MaxInt, nil, at, api.ErrText)
		}
	}
}

// What is told once is not changed by what is asked, or done to an answer, later.
func TestAnswersAreApart(t *testing.T) {
	const s = "x := 'a/b' + 12; -- y"
	l, _, _ := lex.All(s, len(s))
	was := slices.Clone(l)
	m, _, _ := lex.All(s, len(s))
	for i := range m {
		m[i] = lex.Token{Kind: 9, S: "?", N: 9, At: -1}
	}
	_ = append(l[:2], m...)
	n, _, _ := lex.All(s, len(s))
	if !slices.Equal(n, was) {
		t.Errorf("All tells %v, and then %v", was, n)
	}
}
