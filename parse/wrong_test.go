package parse_test

import (
	"math"
	"reflect"
	"slices"
	"strings"
	"testing"

	"noria/api"
	"noria/expr"
	"noria/lex"
	"noria/parse"
)

// refused asks that s is read whole, and then refused, wherever it stands.
func refused(t *testing.T, s string, err api.Errno) {
	t.Helper()
	noExpr(t, s, 0, err)
	noExpr(t, " -- b\n\t"+s+" 1 ", 7, err)
	noPart(t, tokens(t, s), 0, 0, err)
	noPart(t, tokens(t, "1 + "+s+" 1 )"), 2, 2, err)
	// What is not whole is no text, whatever else it is.
	noPart(t, tokens(t, "(1 + "+s), 0, 2+len(tokens(t, s)), api.ErrText)
	noPart(t, tokens(t, "["+s+", ]"), 0, 1+len(tokens(t, s)), api.ErrText)
}

// P11.2: at each place of each line of the grammar what is none of its ways ends the reading, with that place.
func TestStops(t *testing.T) {
	for _, line := range []string{
		")|]|{|}|,|;|:|:=|->|fby|or|xor|and|=|<>|<|<=|>|>=|+|*|/|mod|when|every|then|else|with|node|int|bool|enum|var|let|tel|returns",
		"a -> )|a -> ->|a -> fby|0 fby )|0 fby fby|0 fby ->|a -> b -> )|0 fby 1 fby )",
		"a or )|a or or|a xor and|a or b xor )|a and )|a and or|a and b and =",
		"a = )|a = =|a <> <|a < >=|a + )|a + *|a - ]|a - b + )|a * )|a / *|a mod mod|a * b / )",
		"- )|- *|- +|not )|not =|not or|pre )|pre ->|pre +|- not pre )|- - fby",
		"a [ )|a [ ]|a [ ,|a [ 1 )|a [ 1 ,|a [ 1 with|a [ 1 b|a [ 1 ] [ ]",
		"a when )|a when (|a when 1|a when 'b'|a when [|a when when|a when -|a when if|a when pre",
		"a when not )|a when not not|a when not B|a when not true|a when not (|a when not 1|a when not 'b'",
		"a when B )|a when B b|a when B [|a when true )|a when true b|a when false when|a when false ->",
		"a when B ( )|a when B ( C|a when B ( 1|a when B ( 'b'|a when B ( not|a when true ( true|a when true ( (",
		"a when B ( b ]|a when B ( b ,|a when B ( b (|a when B ( b c|a when false ( b when",
		"f ( ,|f ( ]|f ( every|f ( a b|f ( a ]|f ( a with|f ( a , )|f ( a , ,|f ( a , b ]|f ( a , b , )",
		"f ( ) every )|f ( ) every -|f ( ) every not|f ( ) every pre|f ( ) every every|f ( ) every when|f ( ) every a [ )",
		"[ ]|[ )|[ ,|[ a )|[ a b|[ a with|[ a , ]|[ a , ,|[ a , b )",
		"if )|if then|if a )|if a else|if a if|if a then )|if a then else",
		"if a then b )|if a then b then|if a then b if|if a then b else )|if a then b else else",
		"merge )|merge (|merge A|merge 1|merge 'c'|merge true|merge not|merge merge|merge if",
		"merge c )|merge c c|merge c A|merge c true|merge c [|merge c ->|merge c ( )|merge c ( c|merge c ( 1|merge c ( 'c'|merge c ( not|merge c ( (",
		"merge c ( A )|merge c ( A (|merge c ( A fby|merge c ( true =|merge c ( A A|merge c ( A -> )|merge c ( A -> ->",
		"merge c ( A -> 1 (|merge c ( A -> 1 ]|merge c ( A -> 1 ,|merge c ( A -> 1 with",
		"merge c ( A -> 1 ) ( )|merge c ( A -> 1 ) ( c|merge c ( A -> 1 ) ( B )|merge c ( A -> 1 ) ( B -> )",
		"( )|( ]|( with|( ->|( a ]|( a ,|( a b|( a else|( a = b =|( A (",
		"( a with )|( a with a|( a with (|( a with [ ]|( a with [ )|( a with [ 1 )|( a with [ 1 ,|( a with [ 1 ] )|( a with [ 1 ] :=|( a with [ 1 ] ->|( a with [ 1 ] [",
		"( a with [ 1 ] = )|( a with [ 1 ] = =|( a with [ 1 ] = 2 ]|( a with [ 1 ] = 2 with|( a with [ 1 ] = 2 = 3 =",
	} {
		for _, s := range strings.Split(line, "|") {
			stops(t, s)
		}
	}
}

// P11.1: words are no names, nor are numbers, paths and high names, wherever a name is asked for.
func TestNames(t *testing.T) {
	for _, word := range strings.Fields("node returns var let tel enum if then else fby pre when merge every not and or xor mod true false int bool with A 1 'a'") {
		stops(t, "merge "+word)
		stops(t, "a when not "+word)
		stops(t, "a when A ( "+word)
		if !slices.Contains(strings.Fields("not true false A"), word) {
			stops(t, "a when "+word)
		}
		if !slices.Contains(strings.Fields("true false A"), word) {
			stops(t, "merge c ( "+word)
		}
		if !slices.Contains(strings.Fields("if pre merge not true false A 1 'a'"), word) {
			stops(t, "a + "+word)
			stops(t, word)
		}
	}
	for _, name := range strings.Fields("nod nodes i iff truee tru falsee n_ot mod1 every_ withh abcdefghijkl") {
		reads(t, name+" + 1", "("+name+" + 1)")
		reads(t, name+"() every "+name, "("+name+"() every "+name+")")
		reads(t, "merge "+name+" (A -> "+name+" when "+name+")", "(merge "+name+" (A -> ("+name+" when "+name+")))")
	}
}

// P11.2: where there is no such place, or no End at the end, there is nothing to read.
func TestPlaces(t *testing.T) {
	l := tokens(t, "a + b when c")
	for _, at := range []int{math.MinInt, math.MinInt32, -2, -1, len(l), len(l) + 1, math.MaxInt32, 1 << 32, math.MaxInt} {
		noPart(t, l, at, 0, api.ErrArg)
		noWhen(t, l, at, 0)
	}
	for n := range l {
		for at := -1; at <= n; at++ {
			noPart(t, l[:n], at, 0, api.ErrArg)
			noWhen(t, l[:n], at, 0)
		}
	}
	noPart(t, nil, 0, 0, api.ErrArg)
	noPart(t, []lex.Token{}, 0, 0, api.ErrArg)
	noPart(t, []lex.Token{}, -1, 0, api.ErrArg)
	noWhen(t, nil, 0, 0)
	part(t, l, 0, "(a + (b when c))", 5)
	part(t, l, 2, "(b when c)", 5)
	part(t, l, 4, "c", 5)
	for _, at := range []int{1, 3, 5} {
		noPart(t, l, at, at, api.ErrText)
	}
	end := tokens(t, "")
	noPart(t, end, 0, 0, api.ErrText)
	noWhen(t, end, 0, 0)
	// No way goes on with an End, though another token stands behind it.
	l = slices.Concat(tokens(t, "a"), tokens(t, "+ b"))
	part(t, l, 0, "a", 1)
	noPart(t, l, 1, 1, api.ErrText)
	part(t, l, 3, "b", 4)
	noPart(t, slices.Concat(tokens(t, "a +"), tokens(t, "b")), 0, 2, api.ErrText)
}

// P11.2: the end of what is read hangs on the kinds of tokens, too; no token is taken that is of none.
func TestOtherTokens(t *testing.T) {
	end := lex.Token{Kind: lex.End}
	for _, kind := range []int{math.MinInt, -1, 0, lex.End, lex.End + 1, math.MaxInt} {
		for _, s := range strings.Split("|a|A|1|true|not|(|[|-|if|merge|a/b", "|") {
			odd := lex.Token{Kind: kind, S: s, N: 1}
			noPart(t, []lex.Token{odd, end}, 0, 0, api.ErrText)
			noWhen(t, []lex.Token{odd, end}, 0, 0)
			noPart(t, slices.Insert(tokens(t, "a + b"), 2, odd), 0, 2, api.ErrText)
			part(t, slices.Insert(tokens(t, "a b"), 1, odd), 0, "a", 1)
		}
	}
	noPart(t, []lex.Token{{Kind: lex.Num, S: "1", N: -1}, end}, 0, 0, api.ErrArg)
	noPart(t, []lex.Token{{Kind: lex.Mark, S: "("}, {Kind: lex.Low, S: "a"}, end}, 0, 2, api.ErrText)
}

// P11.2: of what lex refuses Expr tells lex's error and place, whatever else is wrong ahead of it.
func TestNoTokens(t *testing.T) {
	noExpr(t, "a + 01", 4, api.ErrText)
	noExpr(t, "a $ b", 2, api.ErrText)
	noExpr(t, ") + ?", 4, api.ErrText)
	noExpr(t, "a fby b 00", 8, api.ErrText)
	noExpr(t, "9223372036854775808", 0, api.ErrText)
	noExpr(t, "- 9223372036854775808", 2, api.ErrText)
	noExpr(t, "abcdefghijklm", 0, api.ErrText)
	noExpr(t, "a -- b\n + ABCDEFGHIJKLM", 10, api.ErrText)
	noExpr(t, "'a", 0, api.ErrText)
	noExpr(t, "1 + 'a//b'", 4, api.ErrText)
	noExpr(t, "a\x00", 1, api.ErrText)
	noExpr(t, "\u00e4", 0, api.ErrText)
	noExpr(t, "", 0, api.ErrText)
	for _, s := range []string{" ", "\n\t\r ", "-- a", "--\n", "  -- a + b\n  "} {
		noExpr(t, s, len(s), api.ErrText)
	}
}

// P11.2: behind a whole expression nothing may stand; a place is one in the text, not one in the tokens.
func TestBehindTheWhole(t *testing.T) {
	noExpr(t, "a b", 2, api.ErrText)
	noExpr(t, "  a\n\n+ b -- c\n) d", 14, api.ErrText)
	noExpr(t, "a = b -- c\n = d", 12, api.ErrText)
	noExpr(t, "a;", 1, api.ErrText)
	noExpr(t, "a := b", 2, api.ErrText)
	noExpr(t, "'a/b.12''a'", 8, api.ErrText)
	noExpr(t, "1000 1", 5, api.ErrText)
	noExpr(t, " -- a\n+ b", 6, api.ErrText)
	noExpr(t, " (a --b\n ", 9, api.ErrText)
	reads(t, "\t a -- b\n", "a")
	reads(t, "-- a\na--b\n+\r\n1--", "(a + 1)")
	e, n, err := parse.Expr(" a --")
	if e.Name != "a" || n != 5 || err != api.OK {
		t.Error(e, n, err)
	}
}

// P11.2: a text has MaxText bytes at most.
func TestLong(t *testing.T) {
	for _, s := range []string{"a" + strings.Repeat(" ", 5999), strings.Repeat("(", 2999) + "ab" + strings.Repeat(")", 2999), strings.Repeat(" ", 5995) + "a + b"} {
		if len(s) != api.MaxText {
			t.Fatal(len(s))
		}
		e, n, err := parse.Expr(s)
		if !expr.Right(e) || n != 6000 || err != api.OK {
			t.Errorf("%.20q: %+v, %d, %d", s, e, n, err)
		}
		noExpr(t, s+" ", 6000, api.ErrLong)
		noExpr(t, " "+s, 6000, api.ErrLong)
		noExpr(t, s[:5999]+"?", 5999, api.ErrText)
	}
	noExpr(t, strings.Repeat(" ", 6000), 6000, api.ErrText)
	noExpr(t, strings.Repeat("(", 6000), 6000, api.ErrText)
	noExpr(t, strings.Repeat("?", 6001), 6000, api.ErrLong)
	noExpr(t, strings.Repeat("(", 100000), 6000, api.ErrLong)
	// Part asks nothing of how long a text is.
	part(t, tokens(t, strings.Repeat(" ", 100000)+"a"), 0, "a", 1)
}

// around are texts in which @ is one level deeper.
func around() []string {
	return strings.Split("-(@)|not (@)|pre (@)|f(@)|f(1, @)|f() every (@)|f(1) every (@)|(@)[1]|a[@]|(@) when c|(@) when A(c)|[@]|[1, @]|[@, 1]|"+
		"if @ then 1 else 2|if 1 then @ else 2|if 1 then 2 else @|(@) + 1|1 - (@)|(@) = a|a < (@)|a and (@)|(@) or a|1 * (@)|0 fby @|(@) -> a|a -> @|"+
		"merge c (A -> @)|merge c (A -> 1) (B -> @)|merge c (true -> @) (false -> 2)|(@ with [1] = 2)|(a with [@] = 1)|(a with [1] = @)", "|")
}

// P11.2: MaxDepth parts may lie in one another, and no more; brackets are none.
func TestDeep(t *testing.T) {
	for i := range around() {
		one, other := "a", "a"
		for n := 1; n < 20; n++ {
			for _, s := range []string{one, other, "((" + one + "))"} {
				if n > api.MaxDepth {
					refused(t, s, api.ErrLong)
					continue
				}
				e, size, err := parse.Expr(s)
				if expr.Depth(e) != n || !expr.Right(e) || size != len(s) || err != api.OK {
					t.Errorf("%q: %d deep, not %d; %d, %d", s, expr.Depth(e), n, size, err)
				}
			}
			one = strings.ReplaceAll(around()[i], "@", one)
			other = strings.ReplaceAll(around()[(i+n)%len(around())], "@", other)
		}
	}
	reads(t, strings.Repeat("- ", 11)+"a", strings.Repeat("(-", 11)+"a"+strings.Repeat(")", 11))
	refused(t, strings.Repeat("- ", 12)+"a", api.ErrLong)
	reads(t, strings.Repeat("a -> ", 11)+"a", strings.Repeat("(a -> ", 11)+"a"+strings.Repeat(")", 11))
	refused(t, strings.Repeat("a -> ", 12)+"a", api.ErrLong)
	reads(t, "a"+strings.Repeat(" * a", 11), strings.Repeat("(", 11)+"a"+strings.Repeat(" * a)", 11))
	refused(t, "a"+strings.Repeat(" * a", 12), api.ErrLong)
	reads(t, "a"+strings.Repeat("[1]", 11), "a"+strings.Repeat("[1]", 11))
	refused(t, "a"+strings.Repeat("[1]", 12), api.ErrLong)
}

// wide is an expression of so many parts, from 2 to 73, three deep at most.
func wide(n int) string {
	var cells []string
	for n--; n > 0; {
		inner := min(n-1, api.MaxArray)
		cell := "1"
		if inner > 0 {
			cell = "[" + strings.Join(slices.Repeat([]string{"1"}, inner), ", ") + "]"
		}
		cells = append(cells, cell)
		n -= 1 + inner
	}
	return "[" + strings.Join(cells, ", ") + "]"
}

// P11.2: MaxTerms parts may an expression have, and no more.
func TestGreat(t *testing.T) {
	for n := 2; n <= 73; n++ {
		if n > api.MaxTerms {
			refused(t, wide(n), api.ErrLong)
			continue
		}
		reads(t, wide(n), wide(n))
		if e, _, _ := parse.Expr(wide(n)); expr.Size(e) != n {
			t.Errorf("%q: %d parts, not %d", wide(n), expr.Size(e), n)
		}
	}
	// Just so great and just so deep at once.
	reads(t, "["+strings.Repeat("- ", 10)+"a, "+wide(48)+"]", "["+strings.Repeat("(-", 10)+"a"+strings.Repeat(")", 10)+", "+wide(48)+"]")
	refused(t, "["+strings.Repeat("- ", 10)+"a, "+wide(49)+"]", api.ErrLong)
	refused(t, "["+strings.Repeat("- ", 11)+"a, "+wide(47)+"]", api.ErrLong)
	// The last part counts, whatever it is: a leaf, a when, a sign, a call, what resets it.
	for _, s := range []string{"@ when c", "-@", "pre @", "[@]", "f(@)", "f() every @", "merge c (A -> @)"} {
		e, _, err := parse.Expr(strings.ReplaceAll(s, "@", wide(59)))
		if expr.Size(e) != 60 || err != api.OK {
			t.Errorf("%s: %d, %d", s, expr.Size(e), err)
		}
		refused(t, strings.ReplaceAll(s, "@", wide(60)), api.ErrLong)
	}
	for _, s := range []string{"@ + 1", "1 -> @", "0 fby @", "@[1]", "a[@]"} {
		e, _, err := parse.Expr(strings.ReplaceAll(s, "@", wide(58)))
		if expr.Size(e) != 60 || err != api.OK {
			t.Errorf("%s: %d, %d", s, expr.Size(e), err)
		}
		refused(t, strings.ReplaceAll(s, "@", wide(59)), api.ErrLong)
	}
}

// P11.2: what is read whole, but is not right; what is too deep or too great as well is that first of all.
func TestNotRight(t *testing.T) {
	ones := func(n int) string { return strings.Join(slices.Repeat([]string{"1"}, n), ",") }
	wrong := "a fby b|f() fby 1|-a fby 1|(- - 1) fby 1|not true fby 1|1 + 1 fby 1|'a' fby 1|pre 1 fby 1|(0 fby 1) fby 1|[[1]] fby 1|[a] fby 1|[1, -a] fby 1|1[1] fby 1|(1 when c) fby 1|" +
		"0 fby a fby b|a -> b fby c|a or 0 fby b|merge c (A -> 1) (A -> 1)|merge c (true -> 1) (true -> 2)|merge c (A -> 1) (false -> 2) (B -> 3) (false -> 4)|" +
		"merge c (A -> 1) (B -> 1) (C -> 1) (D -> 1) (E -> 1) (F -> 1) (G -> 1)|[" + ones(9) + "]|f(" + ones(7) + ")|f(" + ones(7) + ") every a|f(" + ones(8) + ")"
	for _, s := range strings.Split(wrong, "|") {
		refused(t, s, api.ErrArg)
		noExpr(t, "  "+s+" )", 2, api.ErrArg)
		for _, a := range around() {
			refused(t, strings.ReplaceAll(a, "@", "("+s+")"), api.ErrArg)
		}
		refused(t, strings.Repeat("- ", 12)+"("+s+")", api.ErrLong)
		refused(t, "["+s+", "+wide(59)+"]", api.ErrLong)
	}
	for _, s := range []string{"[@]", "f(@)"} {
		refused(t, strings.ReplaceAll(s, "@", ones(59)), api.ErrArg)
		refused(t, strings.ReplaceAll(s, "@", ones(60)), api.ErrLong)
		refused(t, strings.ReplaceAll(s, "@", ones(1000)), api.ErrLong)
	}
	refused(t, "f("+ones(58)+") every 1", api.ErrArg)
	refused(t, "f("+ones(59)+") every 1", api.ErrLong)
	refused(t, strings.Repeat("- ", 12)+wide(60), api.ErrLong)
}

// P11.1, P11.2: brackets lie in one another as deep as may be, closed or not; so do all others, and what is that deep is refused.
func TestFarBeyond(t *testing.T) {
	const m, n = 1 << 18, 1 << 12
	l := tokens(t, strings.Repeat("(", m)+"a"+strings.Repeat(")", m)+"+ 1")
	part(t, l, 0, "(a + 1)", 2*m+3)
	part(t, l, m-1, "a", m+2)
	noPart(t, l[m:], 1, 1, api.ErrText)
	noPart(t, tokens(t, strings.Repeat("(", m)), 0, m, api.ErrText)
	noPart(t, tokens(t, strings.Repeat("(", m)+"a"+strings.Repeat(")", m-1)), 0, 2*m, api.ErrText)
	for _, a := range around() {
		ahead, behind, _ := strings.Cut(a, "@")
		noPart(t, tokens(t, strings.Repeat(ahead, n)+"a"+strings.Repeat(behind, n)), 0, 0, api.ErrLong)
		l := tokens(t, strings.Repeat(ahead, n)+"a"+strings.Repeat(behind, n)+") A")
		noPart(t, l, 0, 0, api.ErrLong)
		if ahead != "" {
			l = tokens(t, strings.Repeat(ahead, n))
			noPart(t, l, 0, len(l)-1, api.ErrText)
		}
	}
	for _, s := range []string{"- ", "not ", "pre ", "a -> ", "0 fby ", "a + ", "a or ", "f() every ", "if a then b else "} {
		l := tokens(t, strings.Repeat(s, n))
		noPart(t, l, 0, len(l)-1, api.ErrText)
		noPart(t, tokens(t, strings.Repeat(s, n)+"a"), 0, 0, api.ErrLong)
	}
	for _, s := range []string{"[1", "f(1"} {
		l := tokens(t, s+strings.Repeat(", 1", n))
		noPart(t, l, 0, len(l)-1, api.ErrText)
	}
	noPart(t, tokens(t, "[1"+strings.Repeat(", 1", n)+"]"), 0, 0, api.ErrLong)
	noPart(t, tokens(t, "merge c"+strings.Repeat("(A -> 1)", n)), 0, 0, api.ErrLong)
	noPart(t, tokens(t, "a"+strings.Repeat("[1]", n)), 0, 0, api.ErrLong)
	noPart(t, tokens(t, "a"+strings.Repeat(" when c", n)), 0, 0, api.ErrLong)
}

// noWhen asks that When tells of l[at] nothing but a place.
func noWhen(t *testing.T, l []lex.Token, at, place int) {
	t.Helper()
	if name, arm, n, ok := parse.When(l, at); name != "" || arm != "" || n != place || ok {
		t.Errorf("When(%q, %d): %q, %q, %d, %v, not nothing, %d", some(l), at, name, arm, n, ok, place)
	}
}

// P11.1, P11.2: the ways of when, whatever stands ahead and behind.
func TestWhen(t *testing.T) {
	is := func(s, name, arm string) {
		t.Helper()
		size := len(tokens(t, s)) - 1
		for _, behind := range strings.Fields("; , ) ( [ when + -> a A 1 'a' true not node") {
			for ahead, text := range []string{"", "when ", ") ) "} {
				l := tokens(t, text+s+" "+behind)
				if gotName, gotArm, n, ok := parse.When(l, ahead); gotName != name || gotArm != arm || n != ahead+size || !ok {
					t.Errorf("When(%q, %d): %q, %q, %d, %v, not %q, %q, %d", some(l), ahead, gotName, gotArm, n, ok, name, arm, ahead+size)
				}
			}
		}
	}
	is("c", "c", "true")
	is("abcdefghijkl", "abcdefghijkl", "true")
	is("not c", "c", "false")
	is("true(c)", "c", "true")
	is("false ( c )", "c", "false")
	is("Up(c)", "c", "Up")
	is("ABCDEFGHIJKL(notc)", "notc", "ABCDEFGHIJKL")
	is("True(c)", "c", "True")
	for _, s := range strings.Split(")|(|1|'c'|when|if|and|node|-|every|not )|not not|not A|not true|not 1|not 'c'|not (|A )|A c|A A|A when|A [|true )|true c|true true|false )|false not|"+
		"A ( )|A ( C|A ( 1|A ( 'c'|A ( not|A ( true|A ( (|true ( )|false ( if|A ( c ]|A ( c c|A ( c (|A ( c ,|true ( c =|false ( c when", "|") {
		l := tokens(t, s)
		for n, ahead := range []string{"", "a ", "a when "} {
			noWhen(t, tokens(t, ahead+s), n, n+len(l)-2)
			noWhen(t, tokens(t, ahead+s+" c ) )"), n, n+len(l)-2)
			noWhen(t, tokens(t, ahead+s[:last(s)]), n, n+len(l)-2)
		}
	}
}

// lists are those of e's parts.
func lists(e api.Expr) (arms [][]string, subs [][]api.Expr) {
	for p := range expr.Each(e) {
		arms, subs = append(arms, p.Arms), append(subs, p.Subs)
	}
	return arms, subs
}

// P11.2: what is told is new each time, and no list of it lies in another one.
func TestNew(t *testing.T) {
	const s = "merge c (A -> [1, f(a, -b) every 2]) (B -> if a then b when c else (a with [1] = 'a')[pre b])"
	e, _, _ := parse.Expr(s)
	f, _, _ := parse.Expr(s)
	g, _, _ := parse.Expr(s)
	arms, subs := lists(f)
	for _, l := range arms {
		for i := range l[:cap(l)][len(l):] {
			l[:cap(l)][len(l)+i] = "X"
		}
	}
	for _, l := range subs {
		for i := range l[:cap(l)][len(l):] {
			l[:cap(l)][len(l)+i] = api.Expr{Kind: 99}
		}
	}
	if !reflect.DeepEqual(e, f) {
		t.Errorf("%+v, not %+v", f, e)
	}
	for i := range arms {
		clear(arms[i])
		clear(subs[i])
	}
	if !reflect.DeepEqual(e, g) || reflect.DeepEqual(e, f) {
		t.Errorf("%+v, not %+v", e, g)
	}
}
