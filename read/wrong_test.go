package read_test

import (
	"reflect"
	"slices"
	"strings"
	"testing"

	"noria/api"
	"noria/lex"
	"noria/read"
)

// sample is a program with each way of the grammar in it.
const sample = `enum way { Up , Down , In } ; enum e { E } ;
node f ( ) returns ( y : int ) let tel
node g ( a : int ; b : bool [ 2 ] ; w : way ) returns ( y : e [ 8 ] ; z : int )
var h : int ; v : way when h ; k : bool when not h ; m : e [ 1 ] when Up ( v ) ; n : int [ 3 ] when true ( k ) ;
let
y , z = f ( a , b [ 1 ] ) every ( not h ) ;
h = 0 fby ( if b = [ true , false ] then - h else a mod 2 ) -> pre z ;
v = ( w when h with [ a ] = 'g/h.1' ) ;
k = merge v ( Up -> 1 ) ( Down -> true and E <> w ) ;
tel
`

// tokens are those of a text.
func tokens(t *testing.T, s string) []lex.Token {
	t.Helper()
	l, at, err := lex.All(s, api.MaxText)
	if err != api.OK {
		t.Fatalf("%s has no tokens at %d: %d", cut(s), at, err)
	}
	return l
}

// texts are tokens as they stand in a text; the End is none of them.
func texts(t *testing.T, s string) []string {
	t.Helper()
	var l []string
	for _, token := range tokens(t, s) {
		switch token.Kind {
		case lex.Path:
			l = append(l, "'"+token.S+"'")
		case lex.End:
		default:
			l = append(l, token.S)
		}
	}
	return l
}

// holds holds what Program tells of s against what is asked.
func holds(t *testing.T, s string, want answer) {
	t.Helper()
	p, at, err := read.Program(s)
	if at != want.at || err != want.err || !reflect.DeepEqual(bare(p), bare(want.p)) {
		t.Fatalf("%s is told with %s, %d, %d, not with %s, %d, %d", cut(s), described(p), at, err, described(want.p), want.at, want.err)
	}
}

// alphabet has tokens of all kinds; some of them are names that the sample has.
func alphabet() []string {
	return slices.Concat(strings.Fields(words), strings.Fields(":= -> <= >= <> ( ) { } [ ] , ; : = < > + - * / a f w way e x Up E Z 0 1 8 9 2147483649 'a' 'way' 'g/h.1'"))
}

// P14.1, P14.2: a text that ends at each token; each token left out, doubled, and another one in its place, or ahead of it.
func TestEachToken(t *testing.T) {
	w := newGuide()
	l := texts(t, sample)
	// A text with one line feed a token has its tokens where it is known without reading them.
	text := func(l []string) string { return strings.Join(l, "\n") }
	o := w.start()
	told := map[api.Errno]int{}
	holds(t, text(l), w.askedText(text(l)))
	if a := w.askedText(text(l)); a.err != api.OK {
		t.Fatalf("the sample is refused with %d", a.err)
	}
	for i := range l {
		ask := func(m []string) {
			t.Helper()
			s := text(m)
			want := w.asked(o, tokens(t, s), i)
			holds(t, s, want)
			told[want.err]++
		}
		ahead := slices.Clip(l[:i])
		switch short := text(ahead); {
		case i == 0 || i < 20 && l[i-1] == ";":
			refused(t, short, api.ErrNone)
		case l[i-1] != "tel":
			fails(t, short, len(short), api.ErrText)
		}
		ask(ahead)
		ask(append(ahead, l[i+1:]...))
		ask(slices.Insert(slices.Clone(l), i, l[i]))
		ask(append(ahead, slices.Repeat(l[i:i+1], 40)...))
		if i < len(l)-1 {
			ask(slices.Concat(ahead, l[i+1:i+2], l[i:i+1], l[i+2:]))
		}
		for _, other := range alphabet() {
			ask(slices.Concat(ahead, []string{other}, l[i+1:]))
			ask(slices.Concat(ahead, []string{other}, l[i:]))
			ask(slices.Concat(ahead, []string{other}))
		}
		o = w.behind(o, signs(tokens(t, sample), i))
	}
	if told[api.OK] < 300 || told[api.ErrText] < 10000 || told[api.ErrArg] < 20 || told[api.ErrThere] < 20 {
		t.Errorf("told: %v", told)
	}
}

// P14.1, P14.2: behind each beginning of the sample all that goes on by a token, and each other token behind that.
func TestTwoTokens(t *testing.T) {
	w := newGuide()
	l := tokens(t, sample)
	asked := 0
	few := strings.Fields("node returns var let tel enum if fby when merge every not and true int := -> = <> ( ) { } [ ] , ; : + - a way E 1 9 'way'")
	for i := range l {
		o := w.start()
		if w.follow(o, l[:i], 0) != i {
			t.Fatalf("the sample goes wrong ahead of %d", i)
		}
		ahead := sample[:l[i].At]
		for k := range i {
			o = w.behind(o, signs(l, k))
		}
		for k, one := range alphabet() {
			m := tokens(t, ahead+one)
			p := w.behind(o, signs(m, i))
			if len(p) == 0 {
				continue
			}
			// All of them take long: every other one is asked, and the others behind the next beginning.
			for n := (i + k) % 2; n < len(few); n += 2 {
				other := few[n]
				s := ahead + one + " " + other
				holds(t, s, w.asked(p, tokens(t, s), i+1))
				asked++
			}
		}
	}
	if asked < 20000 {
		t.Errorf("%d asked", asked)
	}
}

// P14.2: a byte at which no token begins is told ahead of all else, and so is a text that is too long.
func TestNoTokens(t *testing.T) {
	l := []string{
		"", "node f() returns (y: int) let y = 1; tel", "nod f() returns (y: int) let tel", "node f(a: x) returns (y: int[9]) let tel", "enum e { E }; enum e { E };",
		"node f() returns (y: int) let y = a fby b; tel", "node f() returns (y: int) let y = " + deep(13) + "; tel", "tel", "node f() returns (y: int) let y = ",
	}
	for _, s := range l {
		for _, none := range strings.Split("? ! # $ % & | ~ @ \" \\ _ _a . ' 'a 'A' 'a//b' '' 01 9223372036854775808 abcdefghijklm ABCDEFGHIJKLM \x00 \x7f \x80 \xff \u00e4 \v \f", " ") {
			for _, behind := range l {
				if strings.Contains(none, "'") {
					behind = ""
				}
				wrong(t, s+"\n^"+none+" "+behind, api.ErrText)
			}
			for i := range len(s) {
				if s[i] == ' ' {
					wrong(t, s[:i]+" ^"+none+" ", api.ErrText)
				}
			}
		}
		for _, fill := range []string{" ", "\n", "-", "?", "(", "a", "a;", "node ", "enum e { E };", "'", "\x00"} {
			long := s + " " + strings.Repeat(fill, 6001)
			fails(t, long[:6001], 6000, api.ErrLong)
			fails(t, long, 6000, api.ErrLong)
		}
	}
	fails(t, strings.Repeat(" ", 6000)+"?", 6000, api.ErrLong)
	fails(t, strings.Repeat(" ", 5999)+"?", 5999, api.ErrText)
	fails(t, "?"+strings.Repeat(" ", 5999), 0, api.ErrText)
	fails(t, strings.Repeat("a ", 1<<20), 6000, api.ErrLong)
}

// P14.2: an expression that is wrong in each way, in the first equation and in the last, with its place.
func TestWrongExpressions(t *testing.T) {
	around := []string{
		"node f() returns (y: int) let @ tel",
		"node f() returns (y: int) let @",
		"node f() returns (y: int) let y = 1; @ y = 2; tel",
		"node f() returns (y: int) let x, y = f(); @ ; tel",
		"enum e { E }; node f() returns (y: e) let y = E; tel node g() returns (y: int) let y = 'a'; @ let",
		"node f(a: int) returns (y: int) var b: int; let\n\n@ y = " + deep(13) + "; tel node",
	}
	for _, text := range around {
		for _, names := range []string{"y = ", "y,z=", "x, y, z =  -- a fby b\n\t"} {
			for _, s := range noExpressions() {
				wrong(t, strings.Replace(text, "@", names+s+";", 1), api.ErrText)
			}
			for s, err := range wrongExpressions() {
				wrong(t, strings.Replace(text, "@", names+"^"+s+";", 1), err)
				// What is wrong behind it is told only of what is right, or is no expression as yet.
				wrong(t, strings.Replace(text, "@", names+"^"+s+" )", 1), err)
				wrong(t, strings.Replace(text, "@", names+"^"+s+" y = 1;", 1), err)
				wrong(t, strings.Replace(text, "@", names+"("+s+" ^;", 1), api.ErrText)
				wrong(t, strings.Replace(text, "@", names+s+" + ^fby;", 1), api.ErrText)
			}
			for _, s := range expressions() {
				wrong(t, strings.Replace(text, "@", names+s+" ^)", 1), api.ErrText)
				wrong(t, strings.Replace(text, "@", names+s+" ^y = 1;", 1), api.ErrText)
				wrong(t, strings.Replace(text, "@", names+s+" ^:= 1;", 1), api.ErrText)
				wrong(t, strings.Replace(text, "@", names+s+" ^let;", 1), api.ErrText)
			}
		}
	}
	for s, err := range wrongExpressions() {
		wrong(t, "node f() returns (y: int) let y = ^"+s, err)
	}
	for _, s := range expressions() {
		wrong(t, "node f() returns (y: int) let y = "+s+"^", api.ErrText)
		wrong(t, "node f() returns (y: int) let y = "+s+" -- a;\n ^", api.ErrText)
	}
}

// A spot is where something may be wrong: what stands there, if all is right, and what may be wrong there, each with a ^ at its place.
type spot struct {
	right  string
	wrongs []string
}

// P14.2: of two things that are wrong the one that comes first is told, whichever they are.
func TestTwoWrongs(t *testing.T) {
	spots := []spot{
		{"enum e { E };", []string{"enum e { ^};", "enum e { E, ^e };", "enum ^E { E };", "enum e { E } ^enum"}},
		{"node f(", []string{"node ^F(", "node f ^[", "^nodes f(", "node f() ^let"}},
		{"a: e; b: int[8]", []string{"a: ^way; b: int", "a: e[^0]; b: int", "a: e; b: int[^9]", "a: e ^, b: int", "a: e; ^", "a: e when ^1", "a: e when E(^E)"}},
		{") returns (y: bool", []string{") returns (^", ") ^return (y: bool", ") returns (y ^bool", "; c: ^node"}},
		{") var v: e[2] when c;", []string{") var ^;", ") var v: e[2^;", ") var v: ^v;", ") var v: e[^9223372036854775807];", ") var v: int when not ^E;", ") var v: int when c ^"}},
		{"let y = 1;", []string{"let y = ^;", "let y = 1 ^y = 2;", "let y = ^" + deep(13) + ";", "let y = ^" + wide(61) + ";", "let y = ^a fby 1;", "let y, ^= 1;", "let y ^:= 1;"}},
		{"v = f(1) every c;", []string{"v = f(1 ^;", "v = ^" + deep(13) + ";", "v = ^f(" + wide(60) + ");", "v = ^a fby 1;", "v = 1 ^every c;"}},
		{"tel", []string{"^", "^Tel", "tel ^tel", "tel ^enum f { F };", "tel ^;"}},
	}
	text := func(at map[int]string) string {
		var l []string
		for i, s := range spots {
			if other, there := at[i]; there {
				s.right = other
			}
			l = append(l, s.right)
		}
		return strings.Join(l, " ")
	}
	errno := func(s string) api.Errno {
		switch {
		case strings.Contains(s, "^pre") || strings.Contains(s, "^[") && strings.Contains(s, "1, 1") || strings.Contains(s, "^f("):
			return api.ErrLong
		case strings.Contains(s, "fby"):
			return api.ErrArg
		}
		return api.ErrText
	}
	refused(t, text(map[int]string{2: "a: e; b: int[8] when c"}), api.ErrArg)
	reads(t, text(nil), newGuide().askedText(text(nil)).p)
	for i := range spots {
		for _, one := range spots[i].wrongs {
			wrong(t, text(map[int]string{i: one}), errno(one))
			for k := i + 1; k < len(spots); k++ {
				for _, other := range spots[k].wrongs {
					other = strings.Replace(other, "^", "", 1)
					wrong(t, text(map[int]string{i: one, k: other}), errno(one))
				}
			}
			// What is wrong with the program is told only of what is read whole, whether it stands behind or ahead.
			for _, behind := range []string{" node f() returns (y: int) let tel", " node g(a: int when a) returns (y: int; y: int) let y, y = 1; tel", strings.Repeat(" node g() returns (y: int) let tel", 7)} {
				wrong(t, text(map[int]string{i: one})+behind, errno(one))
			}
			for _, ahead := range []string{"enum z { Z }; enum z { Z }; ", "enum z { Z, Z }; ", "enum z { Z1, Z2, Z3, Z4, Z5, Z6, Z7 }; "} {
				wrong(t, ahead+text(map[int]string{i: one}), errno(one))
			}
			if i > 0 {
				for _, ahead := range []string{"node f() returns (y: int; y: int) let x, x = 1; tel ", "node g(a: int when b) returns (y: int) let tel ", strings.Repeat("node g() returns (y: int) let tel ", 7)} {
					wrong(t, "enum e { E }; "+ahead+text(map[int]string{0: "", i: one}), errno(one))
				}
			}
			// What is no token is told, even if it stands behind.
			wrong(t, strings.Replace(text(map[int]string{i: one}), "^", "", 1)+" ^?", api.ErrText)
		}
	}
}

// P14.2: what is wrong with the program is told in the end, in prog's order, with how many bytes the text has.
func TestRefused(t *testing.T) {
	node := "node f() returns (y: int) let tel "
	other := strings.Repeat("node g() returns (y: int) let y = 1; tel\n", 7)
	for _, c := range []struct {
		s   string
		err api.Errno
	}{
		{"enum e { E }; enum e { F };" + node, api.ErrThere},
		{"enum e { E }; enum e { F }; node f(a: e[3]) returns (y: e) let y = E; tel", api.ErrThere},
		{"enum e { E }; enum f { F, E };" + node, api.ErrThere},
		{"enum e { E, F, E };" + node, api.ErrThere},
		{"enum e { A, B, C, D, E, F, G };" + node, api.ErrMany},
		{"enum e { A, A, A, A, A, A, A };" + node, api.ErrMany},
		{"enum a { A }; enum b { B }; enum c { C }; enum d { D }; enum e { E };" + node, api.ErrMany},
		{"enum e { E }; enum e { E };", api.ErrThere},
		{"enum e { E };", api.ErrNone},
		{"", api.ErrNone},
		{other, api.ErrMany},
		{node + node, api.ErrThere},
		{"node f(y: int) returns (y: int) let tel", api.ErrThere},
		{"node f(a: int; a: bool) returns (y: int) let tel", api.ErrThere},
		{"node f() returns (y: int) var y: int when y; let tel", api.ErrThere},
		{"node f(a: int when a) returns (y: int) let tel", api.ErrArg},
		{"node f() returns (y: int when y) let tel", api.ErrArg},
		{"node f() returns (y: int) let y, y = 1; tel", api.ErrArg},
		{"node f() returns (y: int) let y, z = f() -> f(); tel", api.ErrArg},
		{"node f() returns (y: int) let y, z = (f()); tel " + node, api.ErrThere},
		{node + "node f() returns (y: int; y: int) let y, y = 1; tel", api.ErrArg},
		{node + "node f(a: int when b) returns (y: int; y: int) let " + strings.Repeat("y = 1;", 19) + " tel", api.ErrMany},
		{"enum e { E, E }; node f(a: int when b) returns (y: int) let " + strings.Repeat("y = 1;", 19) + " tel", api.ErrThere},
		{"node f(a: int; b: int; c: int; d: int; e: int; f: int; g: int) returns (y: int) let tel", api.ErrMany},
		{"node f() returns (a: int; b: int; c: int; d: int; e: int; f: int; g: int) let tel", api.ErrMany},
		{"node f() returns (y: int) var " + strings.Repeat("v: int; ", 13) + "let tel", api.ErrMany},
		{"node f() returns (y: int) var " + strings.Repeat("v: int; ", 12) + "let tel", api.ErrThere},
		{"node f() returns (y: int) let " + strings.Repeat("y = 1;", 19) + " tel", api.ErrMany},
	} {
		refused(t, c.s, c.err)
		refused(t, " -- a\n"+c.s+"\n\n-- tel", c.err)
		if want := newGuide().askedText(c.s); want.err != c.err || want.at != len(c.s) {
			t.Errorf("%s is to be told with %d, %d", cut(c.s), want.at, want.err)
		}
	}
	reads(t, "node f() returns (y: int) let y, y = f(); z = y; tel", newGuide().askedText("node f() returns (y: int) let y, y = f(); z = y; tel").p)
}

// P14.2: texts that go on as long as they may end somewhere, too.
func TestFar(t *testing.T) {
	node := "node f() returns (y: int) let "
	for _, s := range []string{
		node + "y = " + strings.Repeat("(", 5900), node + "y = " + strings.Repeat("[", 5900), node + "y = " + strings.Repeat("f(", 2900), node + "y = " + strings.Repeat("- ", 2900),
		node + "y = " + strings.Repeat("a + ", 1400), node + "y = a" + strings.Repeat("[1]", 1900), node + "y = " + strings.Repeat("if a then ", 590), node + strings.Repeat("y, ", 1900),
		node + strings.Repeat("y = 1;", 900), "node f(" + strings.Repeat("a: int; ", 700), "node f() returns (" + strings.Repeat("a: int[8]; ", 500), "node f() returns (y: int) var " + strings.Repeat("a: int;", 800),
		strings.Repeat("enum e { E };", 450), strings.Repeat("enum e { E };", 450) + "node", "enum e { " + strings.Repeat("E, ", 1900), strings.Repeat("node ", 1000), strings.Repeat(node+"tel ", 150), strings.Repeat(";", 6000),
		node + "y = merge c" + strings.Repeat(" (A -> 1)", 600), node + "y = a" + strings.Repeat(" when c", 800), node + "y = a" + strings.Repeat(" -> 1", 1100) + ";tel",
	} {
		l := tokens(t, s)
		p, at, err := read.Program(s)
		if !reflect.DeepEqual(p, api.Program{}) || err == api.OK || at != len(s) && !slices.ContainsFunc(l, func(token lex.Token) bool { return token.At == at }) {
			t.Errorf("%s is told with %s, %d, %d", cut(s), described(p), at, err)
		}
	}
	wrong(t, node+"y = "+strings.Repeat("(", 5900)+"^", api.ErrText)
	wrong(t, node+"y = ^a"+strings.Repeat(" -> 1", 1100)+";tel", api.ErrLong)
	wrong(t, node+strings.Repeat("y, ", 1900)+"^", api.ErrText)
	refused(t, strings.Repeat("enum e { E };", 450), api.ErrMany)
	refused(t, strings.Repeat(node+"tel ", 150), api.ErrMany)
}
