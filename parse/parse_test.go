package parse_test

import (
	"math"
	"reflect"
	"slices"
	"strings"
	"testing"

	"noria/api"
	"noria/lex"
	"noria/parse"
	"noria/show"
)

// tokens are those of a text that has some, however long it is.
func tokens(t *testing.T, s string) []lex.Token {
	t.Helper()
	l, at, err := lex.All(s, math.MaxInt)
	if err != api.OK {
		t.Fatalf("%.100q has no tokens at %d: %d", s, at, err)
	}
	return l
}

// some are the texts of the first of many tokens.
func some(l []lex.Token) []string {
	var texts []string
	for _, t := range l[:min(len(l), 30)] {
		texts = append(texts, t.S)
	}
	return texts
}

// part asks that Part tells of l[at] the expression that has this text, up to behind.
func part(t *testing.T, l []lex.Token, at int, text string, behind int) {
	t.Helper()
	as := slices.Clone(l)
	e, n, err := parse.Part(l, at)
	if show.Expr(e) != text || n != behind || err != api.OK {
		t.Errorf("Part(%q, %d): %q, %d, %d, not %q, %d", some(l), at, show.Expr(e), n, err, text, behind)
	}
	if !slices.Equal(l, as) {
		t.Errorf("%q are changed", some(as))
	}
}

// noPart asks that Part tells of l[at] nothing but an error and its place.
func noPart(t *testing.T, l []lex.Token, at, place int, err api.Errno) {
	t.Helper()
	e, n, got := parse.Part(l, at)
	if !reflect.DeepEqual(e, api.Expr{}) || n != place || got != err {
		t.Errorf("Part(%q, %d): %q, %d, %d, not nothing, %d, %d", some(l), at, show.Expr(e), n, got, place, err)
	}
}

// noExpr asks that Expr tells of s nothing but an error and its place.
func noExpr(t *testing.T, s string, place int, err api.Errno) {
	t.Helper()
	e, n, got := parse.Expr(s)
	if !reflect.DeepEqual(e, api.Expr{}) || n != place || got != err {
		t.Errorf("Expr(%.300q): %q, %d, %d, not nothing, %d, %d", s, show.Expr(e), n, got, place, err)
	}
}

// reads asks that s is the expression that has this text, alone and between tokens that are none of it.
func reads(t *testing.T, s, text string) {
	t.Helper()
	e, n, err := parse.Expr(s)
	if show.Expr(e) != text || n != len(s) || err != api.OK {
		t.Errorf("Expr(%q): %q, %d, %d, not %q", s, show.Expr(e), n, err, text)
	}
	size := len(tokens(t, s)) - 1
	part(t, tokens(t, s), 0, text, size)
	part(t, tokens(t, "not ( "+s+"; a ) )"), 2, text, 2+size)
	for _, behind := range strings.Fields(") ] , then else with tel := 'a' 1 A a true if merge pre not") {
		part(t, tokens(t, s+" "+behind), 0, text, size)
	}
}

// last is where the last word of s begins.
func last(s string) int {
	return strings.LastIndex(s, " ") + 1
}

// ends asks that all but the last word of s is the expression that has this text, and that it goes on with no such word.
func ends(t *testing.T, s, text string) {
	t.Helper()
	size := len(tokens(t, s)) - 2
	part(t, tokens(t, s), 0, text, size)
	part(t, tokens(t, s+" a + 1"), 0, text, size)
	noExpr(t, s, last(s), api.ErrText)
	noExpr(t, s+" a + 1", last(s), api.ErrText)
}

// stops asks that what stands ahead of the last word of s goes on neither with it, nor with the end, nor with a word that is in no expression.
func stops(t *testing.T, s string) {
	t.Helper()
	size := len(tokens(t, s)) - 2
	ahead := s[:last(s)]
	for _, word := range append(strings.Fields("node returns var let tel enum int bool := : ; { }"), s[last(s):]) {
		noPart(t, tokens(t, ahead+word), 0, size, api.ErrText)
		noPart(t, tokens(t, ahead+word+" a + 1"), 0, size, api.ErrText)
		noPart(t, tokens(t, "a [ "+ahead+word), 2, 2+size, api.ErrText)
		noExpr(t, ahead+word, len(ahead), api.ErrText)
		noExpr(t, "-- a\n"+ahead+"  "+word+" a", 5+len(ahead)+2, api.ErrText)
	}
	noPart(t, tokens(t, ahead), 0, size, api.ErrText)
	noExpr(t, ahead, len(ahead), api.ErrText)
}

// P11.1, P11.2: the chapter's examples.
func TestExamples(t *testing.T) {
	reads(t, "a + 1 * b", "(a + (1 * b))")
	reads(t, "0 fby a -> b", "((0 fby a) -> b)")
	reads(t, "f(a) every x[1]", "(f(a) every x[1])")
}

// P11.1: what the tokens of each kind stand for, field by field.
func TestKinds(t *testing.T) {
	a, b, c := api.Expr{Kind: api.ExVar, Name: "a"}, api.Expr{Kind: api.ExVar, Name: "b"}, api.Expr{Kind: api.ExVar, Name: "c"}
	of := func(kind int, subs ...api.Expr) api.Expr { return api.Expr{Kind: kind, Subs: subs} }
	is := func(s string, want api.Expr) {
		t.Helper()
		for _, s := range []string{s, "(" + s + ")", "((\n" + s + " ) )"} {
			e, n, err := parse.Expr(s)
			if !reflect.DeepEqual(e, want) || n != len(s) || err != api.OK {
				t.Errorf("Expr(%q): %+v, %d, %d, not %+v", s, e, n, err, want)
			}
		}
	}
	is("a", a)
	is("12", api.Expr{Kind: api.ExNum, N: 12})
	is("0", api.Expr{Kind: api.ExNum})
	is("9223372036854775807", api.Expr{Kind: api.ExNum, N: math.MaxInt64})
	is("true", api.Expr{Kind: api.ExBool, N: 1})
	is("false", api.Expr{Kind: api.ExBool})
	is("True", api.Expr{Kind: api.ExCtor, Name: "True"})
	is("'a/b.12'", api.Expr{Kind: api.ExOld, Name: "a/b.12"})
	is("'a'", api.Expr{Kind: api.ExOld, Name: "a"})
	is("-a", api.Expr{Kind: api.ExUn, Op: api.OpNeg, Subs: []api.Expr{a}})
	is("not a", api.Expr{Kind: api.ExUn, Op: api.OpNot, Subs: []api.Expr{a}})
	is("a mod b", api.Expr{Kind: api.ExBin, Op: api.OpMod, Subs: []api.Expr{a, b}})
	is("if a then b else c", of(api.ExIf, a, b, c))
	is("0 fby a", of(api.ExFby, api.Expr{Kind: api.ExNum}, a))
	is("a -> b", of(api.ExArrow, a, b))
	is("pre a", of(api.ExPre, a))
	is("a when b", api.Expr{Kind: api.ExWhen, Name: "b", Arms: []string{"true"}, Subs: []api.Expr{a}})
	is("a when true(b)", api.Expr{Kind: api.ExWhen, Name: "b", Arms: []string{"true"}, Subs: []api.Expr{a}})
	is("a when not b", api.Expr{Kind: api.ExWhen, Name: "b", Arms: []string{"false"}, Subs: []api.Expr{a}})
	is("a when false(b)", api.Expr{Kind: api.ExWhen, Name: "b", Arms: []string{"false"}, Subs: []api.Expr{a}})
	is("a when Up(b)", api.Expr{Kind: api.ExWhen, Name: "b", Arms: []string{"Up"}, Subs: []api.Expr{a}})
	is("merge a (Up -> b)", api.Expr{Kind: api.ExMerge, Name: "a", Arms: []string{"Up"}, Subs: []api.Expr{b}})
	is("merge a (false -> b) (Up -> a) (true -> c)", api.Expr{Kind: api.ExMerge, Name: "a", Arms: []string{"false", "Up", "true"}, Subs: []api.Expr{b, a, c}})
	is("f()", api.Expr{Kind: api.ExCall, Name: "f"})
	is("f(a, b)", api.Expr{Kind: api.ExCall, Name: "f", Subs: []api.Expr{a, b}})
	is("f() every a", api.Expr{Kind: api.ExCall, Name: "f", N: 1, Subs: []api.Expr{a}})
	is("f(a, b) every c", api.Expr{Kind: api.ExCall, Name: "f", N: 1, Subs: []api.Expr{a, b, c}})
	is("[a]", of(api.ExArr, a))
	is("[a, b, c]", of(api.ExArr, a, b, c))
	is("a[b]", of(api.ExAt, a, b))
	is("(a with [b] = c)", of(api.ExSet, a, b, c))
}

// P11.1: an operator of two sides is the one whose sign it is; all but comparisons go on, and hold from the left on.
func TestSigns(t *testing.T) {
	levels := []string{"or xor", "and", "= <> < <= > >=", "+ -", "* / mod"}
	signs := strings.Fields(strings.Join(levels, " "))
	level := func(sign string) int {
		return slices.IndexFunc(levels, func(s string) bool { return slices.Contains(strings.Fields(s), sign) })
	}
	for i, x := range signs {
		e, _, _ := parse.Expr("a " + x + " b")
		if at := slices.Index(strings.Fields("+ - * / mod and or xor = <> < <= > >="), x); e.Kind != api.ExBin || e.Op != api.OpAdd+at || len(e.Subs) != 2 {
			t.Errorf("%s: %+v", x, e)
		}
		reads(t, "a "+x+" b", "(a "+x+" b)")
		reads(t, "-a "+x+" -b", "((-a) "+x+" (-b))")
		reads(t, "not a "+x+" pre b", "((not a) "+x+" (pre b))")
		reads(t, "- not pre a[1] "+x+" b when c", "((-(not (pre a[1]))) "+x+" (b when c))")
		reads(t, "a "+x+" b -> c", "((a "+x+" b) -> c)")
		reads(t, "a -> b "+x+" c", "(a -> (b "+x+" c))")
		reads(t, "1 fby b "+x+" c", "(1 fby (b "+x+" c))")
		stops(t, "a "+x+" "+signs[(i+1)%2])
		for _, y := range signs {
			if level(x) == 2 && level(y) == 2 {
				ends(t, "a "+x+" b "+y, "(a "+x+" b)")
			} else if level(x) < level(y) {
				reads(t, "a "+x+" b "+y+" c", "(a "+x+" (b "+y+" c))")
			} else {
				reads(t, "a "+x+" b "+y+" c", "((a "+x+" b) "+y+" c)")
			}
			reads(t, "(a "+x+" b) "+y+" c", "((a "+x+" b) "+y+" c)")
			reads(t, "a "+x+" (b "+y+" c)", "(a "+x+" (b "+y+" c))")
		}
	}
}

// P11.1: all levels in one another, with brackets and without, each from its side on.
func TestLevels(t *testing.T) {
	reads(t, "a -> 0 fby b or c and d = e + g * not h[1]", "(a -> (0 fby (b or (c and (d = (e + (g * (not h[1]))))))))")
	reads(t, "a[1] * b + c = d and e or g -> h", "((((((a[1] * b) + c) = d) and e) or g) -> h)")
	reads(t, "((((((((1) fby a) or b) and c) = d) + e) * g) -> h)", "(((((((1 fby a) or b) and c) = d) + e) * g) -> h)")
	reads(t, "(-(a -> b) * (c or d))[a = b] when c", "(((-(a -> b)) * (c or d))[(a = b)] when c)")
	reads(t, "-(a)", "(-a)")
	reads(t, "(((a)))", "a")
	reads(t, "a - b - c - d", "(((a - b) - c) - d)")
	reads(t, "a - (b - (c - d))", "(a - (b - (c - d)))")
	reads(t, "a / b * c mod d", "(((a / b) * c) mod d)")
	reads(t, "a or b xor c or d", "(((a or b) xor c) or d)")
	reads(t, "a and b and c and d", "(((a and b) and c) and d)")
	reads(t, "a -> b -> c -> d", "(a -> (b -> (c -> d)))")
	reads(t, "(a -> b) -> c", "((a -> b) -> c)")
	reads(t, "0 fby 1 fby 2 fby a", "(0 fby (1 fby (2 fby a)))")
	reads(t, "-1 fby a", "((-1) fby a)")
	reads(t, "(-1) fby (a)", "((-1) fby a)")
	reads(t, "[true, -1, A] fby a", "([true, (-1), A] fby a)")
	reads(t, "0 fby a -> 1 fby b -> c", "((0 fby a) -> ((1 fby b) -> c))")
	reads(t, "0 fby (a -> b)", "(0 fby (a -> b))")
	reads(t, "a = (b = c)", "(a = (b = c))")
	reads(t, "a - - b", "(a - (-b))")
	reads(t, "- - a - - - b", "((-(-a)) - (-(-b)))")
	reads(t, "a * -b + -c * d", "((a * (-b)) + ((-c) * d))")
	reads(t, "-(a + b) * -(a * b)", "((-(a + b)) * (-(a * b)))")
	reads(t, "not a = b", "((not a) = b)")
	reads(t, "not (a = b)", "(not (a = b))")
	reads(t, "not a when not b", "(not (a when not b))")
	reads(t, "not not a when b", "(not (not (a when b)))")
	reads(t, "not a and not b or not c", "(((not a) and (not b)) or (not c))")
	reads(t, "pre a -> pre b", "((pre a) -> (pre b))")
	reads(t, "pre - not a + 1", "((pre (-(not a))) + 1)")
	reads(t, "a when not b = c", "((a when not b) = c)")
}

// P11.1: what may stand behind an atom stands there in any order, as often as it likes.
func TestBehind(t *testing.T) {
	reads(t, "a[1][b][c[2]]", "a[1][b][c[2]]")
	reads(t, "a[1] when b[2] when not c when Up(d)[3][4]", "(((a[1] when b)[2] when not c) when Up(d))[3][4]")
	reads(t, "a when true(b) when false(b)", "((a when b) when not b)")
	reads(t, "a[b -> c]", "a[(b -> c)]")
	for _, atom := range []string{"1", "true", "false", "A", "a", "'a/b.1'", "f()", "f(a, b)", "[a, b]", "(merge c (A -> a))", "(a with [b] = c)", "(if a then b else c)", "(f() every a)"} {
		reads(t, atom, atom)
		reads(t, atom+"[1]", atom+"[1]")
		reads(t, atom+" when b", "("+atom+" when b)")
		reads(t, atom+" when not b[1]", "("+atom+" when not b)[1]")
		reads(t, "-"+atom+"[1] when Up(b)", "(-("+atom+"[1] when Up(b)))")
		reads(t, "pre "+atom, "(pre "+atom+")")
	}
	reads(t, "merge c (A -> a)[1]", "(merge c (A -> a))[1]")
	reads(t, "merge c (A -> a) when b", "((merge c (A -> a)) when b)")
}

// P11.1: what resets a call goes as far as it can, but no further than what may stand behind an atom.
func TestEvery(t *testing.T) {
	reads(t, "f(a) every x[1][2] when c", "(f(a) every (x[1][2] when c))")
	reads(t, "f(a) every x when not c[1]", "(f(a) every (x when not c)[1])")
	reads(t, "f() every g()", "(f() every g())")
	reads(t, "f() every g(a) every h(b)[1] when c", "(f() every (g(a) every (h(b)[1] when c)))")
	reads(t, "f() every f() every f() every f()", "(f() every (f() every (f() every f())))")
	reads(t, "(f(a) every x)[1]", "(f(a) every x)[1]")
	reads(t, "(f(a) every x) when c", "((f(a) every x) when c)")
	reads(t, "f(g() every a, h(b) every c)", "f((g() every a), (h(b) every c))")
	reads(t, "f() every a + 1", "((f() every a) + 1)")
	reads(t, "- f() every a -> b", "((-(f() every a)) -> b)")
	reads(t, "f() every (a -> b)", "(f() every (a -> b))")
	reads(t, "f() every if a then b else c or d", "(f() every (if a then b else (c or d)))")
	reads(t, "f() every merge c (A -> a) or d", "((f() every (merge c (A -> a))) or d)")
	reads(t, "f() every [a][1]", "(f() every [a][1])")
	ends(t, "f ( ) [ 1 ] every", "f()[1]")
	ends(t, "f ( ) when a every", "(f() when a)")
	ends(t, "f ( ) every a every", "(f() every a)")
	ends(t, "( f ( ) ) every", "f()")
	ends(t, "a every", "a")
	ends(t, "[ f ( ) ] every", "[f()]")
}

// P11.1: an if, and what it is if not, goes as far as it can; an if stands wherever an atom does.
func TestIf(t *testing.T) {
	reads(t, "if a then b else c + 1", "(if a then b else (c + 1))")
	reads(t, "if a then b else c -> d", "(if a then b else (c -> d))")
	reads(t, "if a -> b then 0 fby c else d -> e", "(if (a -> b) then (0 fby c) else (d -> e))")
	reads(t, "if if a then b else c then if a then b else c else if a then b else c", "(if (if a then b else c) then (if a then b else c) else (if a then b else c))")
	reads(t, "- if a then b else c * d", "(-(if a then b else (c * d)))")
	reads(t, "a * if b then c else d + e", "(a * (if b then c else (d + e)))")
	reads(t, "(if a then b else c) + 1", "((if a then b else c) + 1)")
	reads(t, "if a then b else c[1] when d", "(if a then b else (c[1] when d))")
	ends(t, "if a then b else c else", "(if a then b else c)")
	ends(t, "if a then b else c then", "(if a then b else c)")
}

// P11.1: merges have as many arms as there are brackets behind; calls and arrays as many parts as there are commas.
func TestLists(t *testing.T) {
	arms := strings.Fields("A true B_1 false Up Down")
	for n := range 8 {
		numbers := strings.Split("1 -> 2,a + b,3,- 1,[a],f(),0 fby g(a, b),2", ",")[:min(n, 6)]
		texts := strings.Split("(1 -> 2),(a + b),3,(-1),[a],f(),(0 fby g(a, b)),2", ",")[:min(n, 6)]
		args, shown := strings.Join(numbers, ","), strings.Join(texts, ", ")
		reads(t, "f("+args+")", "f("+shown+")")
		reads(t, "f("+args+") every c", "(f("+shown+") every c)")
		if n == 0 || n > 6 {
			continue
		}
		reads(t, "["+args+"]", "["+shown+"]")
		merge, text := "merge c", "(merge c"
		for i := range n {
			merge += "(" + arms[i] + "->" + numbers[i] + ")"
			text += " (" + arms[i] + " -> " + texts[i] + ")"
		}
		reads(t, merge, text+")")
		ends(t, merge+" A", text+")")
		ends(t, merge+" merge", text+")")
	}
	reads(t, "merge c (A -> merge d (B -> 1) (C -> 2)) (D -> 3)", "(merge c (A -> (merge d (B -> 1) (C -> 2))) (D -> 3))")
	reads(t, "merge c (A -> 1) + merge c (A -> 1) (B -> 2)", "((merge c (A -> 1)) + (merge c (A -> 1) (B -> 2)))")
	reads(t, "[1, 2, 3, 4, 5, 6, 7, 8]", "[1, 2, 3, 4, 5, 6, 7, 8]")
}

// P11.1: brackets stand for what is in them; with a with, for an array in which a cell is another one.
func TestBrackets(t *testing.T) {
	reads(t, "(a)", "a")
	reads(t, "(a -> b)", "(a -> b)")
	reads(t, "(a with [1] = 2)", "(a with [1] = 2)")
	reads(t, "(a -> b with [a -> b] = a -> b)", "((a -> b) with [(a -> b)] = (a -> b))")
	reads(t, "(a = b with [a = b] = a = b)", "((a = b) with [(a = b)] = (a = b))")
	reads(t, "((a with [1] = 2) with [3] = 4)[5]", "((a with [1] = 2) with [3] = 4)[5]")
	reads(t, "((a) with [(1)] = (2))", "(a with [1] = 2)")
	ends(t, "a with", "a")
	ends(t, "( a ) with", "a")
	ends(t, "a [ 1 ] with", "a[1]")
}

// P11.1: where an expression ends, as nothing goes on with the token that is next.
func TestEnds(t *testing.T) {
	for _, atom := range strings.Split("a,A,true,false,1,'a',f ( ),[ a ],( a )", ",") {
		text := strings.NewReplacer(" ", "", "( a )", "a").Replace(atom)
		for _, word := range strings.Fields(") ] } { , ; : := then else every with not pre if merge a A 1 'a' true node int tel") {
			if word != "every" || text != "f()" {
				ends(t, atom+" "+word, text)
			}
		}
		if atom != "a" {
			ends(t, atom+" (", text)
		}
		ends(t, "- "+atom+" )", "(-"+text+")")
		ends(t, "a + "+atom+" )", "(a + "+text+")")
		ends(t, "a -> "+atom+" ]", "(a -> "+text+")")
		ends(t, atom+" when c (", "("+text+" when c)")
		ends(t, atom+" when not c (", "("+text+" when not c)")
		ends(t, atom+" when A ( c ) (", "("+text+" when A(c))")
		ends(t, atom+" [ 1 ] (", text+"[1]")
	}
}
