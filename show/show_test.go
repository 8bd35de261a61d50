package show_test

import (
	"math"
	"math/rand/v2"
	"reflect"
	"slices"
	"strconv"
	"strings"
	"testing"

	"noria/api"
	"noria/expr"
	"noria/show"
)

// has asks that e's text is s, with lists that are none and with empty ones, and that e stays as it is.
func has(t *testing.T, e api.Expr, s string) {
	t.Helper()
	for _, f := range []api.Expr{e, copied(e), filled(e)} {
		as := copied(f)
		if got := show.Expr(f); got != s {
			t.Errorf("%.300q, not %.300q", got, s)
		}
		if !reflect.DeepEqual(copied(f), as) {
			t.Errorf("%.300q is changed", s)
		}
	}
}

// row is the row of the chapter's table that e's kind has: with T1, T2, .. for its Subs' texts, A1, A2, .. for its arms.
func row(e api.Expr) string {
	signs := strings.Fields("+ - * / mod and or xor = <> < <= > >=")
	switch e.Kind {
	case api.ExNum:
		return strconv.FormatInt(e.N, 10)
	case api.ExBool:
		return []string{"false", "true"}[e.N]
	case api.ExVar, api.ExCtor:
		return "Name"
	case api.ExOld:
		return "'Name'"
	case api.ExUn:
		return []string{"(-T1)", "(not T1)"}[e.Op-1]
	case api.ExBin:
		return "(T1 " + signs[e.Op-3] + " T2)"
	case api.ExIf:
		return "(if T1 then T2 else T3)"
	case api.ExFby:
		return "(T1 fby T2)"
	case api.ExArrow:
		return "(T1 -> T2)"
	case api.ExPre:
		return "(pre T1)"
	case api.ExWhen:
		switch e.Arms[0] {
		case "true":
			return "(T1 when Name)"
		case "false":
			return "(T1 when not Name)"
		}
		return "(T1 when A1(Name))"
	case api.ExMerge:
		return "(merge Name " + numbered("(A -> T)", " ", len(e.Arms)) + ")"
	case api.ExCall:
		if n := len(e.Subs); e.N == 1 {
			return "(Name(" + numbered("T", ", ", n-1) + ") every T" + strconv.Itoa(n) + ")"
		}
		return "Name(" + numbered("T", ", ", len(e.Subs)) + ")"
	case api.ExArr:
		return "[" + numbered("T", ", ", len(e.Subs)) + "]"
	case api.ExAt:
		return "T1[T2]"
	}
	return "(T1 with [T2] = T3)"
}

// numbered is s n times, each A and T of it with a number behind, from 1 on.
func numbered(s, between string, n int) string {
	l := make([]string, n)
	for i := range l {
		at := strconv.Itoa(i + 1)
		l[i] = strings.NewReplacer("A", "A"+at, "T", "T"+at).Replace(s)
	}
	return strings.Join(l, between)
}

// wanted is the text of a right expression, laid out from the rows of the chapter's table.
func wanted(e api.Expr) string {
	in := []string{"Name", e.Name}
	for i, a := range e.Arms {
		in = append(in, "A"+strconv.Itoa(i+1), a)
	}
	for i, p := range e.Subs {
		in = append(in, "T"+strconv.Itoa(i+1), wanted(p))
	}
	return strings.NewReplacer(in...).Replace(row(e))
}

// P10.1: the chapter's example.
func TestExample(t *testing.T) {
	has(t, operation(api.OpAdd, leaf(api.ExVar, "a"), operation(api.OpNeg, number(1))), "(a + (-1))")
}

// P10.1: an expression of each row of the table.
func TestRows(t *testing.T) {
	a, b, c := leaf(api.ExVar, "a"), leaf(api.ExVar, "b9_"), leaf(api.ExVar, "abcdefghijkl")
	has(t, number(0), "0")
	has(t, number(1), "1")
	has(t, number(1020), "1020")
	has(t, number(math.MaxInt64), "9223372036854775807")
	has(t, truth(0), "false")
	has(t, truth(1), "true")
	has(t, a, "a")
	has(t, b, "b9_")
	has(t, c, "abcdefghijkl")
	has(t, leaf(api.ExCtor, "A"), "A")
	has(t, leaf(api.ExCtor, "ABCDEFGHIJ_9"), "ABCDEFGHIJ_9")
	has(t, leaf(api.ExOld, "a"), "'a'")
	has(t, leaf(api.ExOld, "a/b"), "'a/b'")
	has(t, leaf(api.ExOld, "a.1/b.999/c"), "'a.1/b.999/c'")
	has(t, operation(api.OpNeg, a), "(-a)")
	has(t, operation(api.OpNeg, number(math.MaxInt64)), "(-9223372036854775807)")
	has(t, operation(api.OpNot, a), "(not a)")
	has(t, operation(api.OpSub, a, b), "(a - b9_)")
	has(t, part(api.ExIf, a, b, c), "(if a then b9_ else abcdefghijkl)")
	has(t, part(api.ExFby, number(0), a), "(0 fby a)")
	has(t, part(api.ExFby, operation(api.OpNeg, number(2)), a), "((-2) fby a)")
	has(t, part(api.ExFby, part(api.ExArr, truth(1), leaf(api.ExCtor, "Up")), a), "([true, Up] fby a)")
	has(t, part(api.ExArrow, a, b), "(a -> b9_)")
	has(t, part(api.ExPre, a), "(pre a)")
	has(t, clocked(api.ExWhen, "c", "true", a), "(a when c)")
	has(t, clocked(api.ExWhen, "c", "false", a), "(a when not c)")
	has(t, clocked(api.ExWhen, "c", "Up", a), "(a when Up(c))")
	has(t, clocked(api.ExWhen, "c", "True", a), "(a when True(c))")
	has(t, clocked(api.ExMerge, "c", "true false", a, b), "(merge c (true -> a) (false -> b9_))")
	has(t, call(0), "f()")
	has(t, call(0, a, b), "f(a, b9_)")
	has(t, call(1, a), "(f() every a)")
	has(t, call(1, a, b), "(f(a) every b9_)")
	has(t, call(1, a, b, c), "(f(a, b9_) every abcdefghijkl)")
	has(t, part(api.ExArr, a), "[a]")
	has(t, part(api.ExArr, a, b, c), "[a, b9_, abcdefghijkl]")
	has(t, part(api.ExAt, a, b), "a[b9_]")
	has(t, part(api.ExSet, a, b, c), "(a with [b9_] = abcdefghijkl)")
}

// P10.1: what is in brackets stays in them, wherever it stands.
func TestInOneAnother(t *testing.T) {
	a, b, c := leaf(api.ExVar, "a"), leaf(api.ExVar, "b"), leaf(api.ExVar, "c")
	less := operation(api.OpNeg, a)
	has(t, operation(api.OpNeg, operation(api.OpNeg, number(1))), "(-(-1))")
	has(t, operation(api.OpNot, less), "(not (-a))")
	has(t, operation(api.OpSub, less, less), "((-a) - (-a))")
	has(t, operation(api.OpSub, operation(api.OpSub, a, b), c), "((a - b) - c)")
	has(t, operation(api.OpSub, a, operation(api.OpSub, b, c)), "(a - (b - c))")
	has(t, part(api.ExPre, part(api.ExAt, a, b)), "(pre a[b])")
	has(t, part(api.ExAt, part(api.ExPre, a), b), "(pre a)[b]")
	has(t, part(api.ExAt, part(api.ExAt, a, b), c), "a[b][c]")
	has(t, part(api.ExAt, a, part(api.ExAt, b, c)), "a[b[c]]")
	has(t, part(api.ExAt, part(api.ExArr, a, b), c), "[a, b][c]")
	has(t, part(api.ExAt, call(0, a), b), "f(a)[b]")
	has(t, part(api.ExAt, call(1, a, b), c), "(f(a) every b)[c]")
	has(t, call(1, a, part(api.ExAt, b, c)), "(f(a) every b[c])")
	has(t, part(api.ExAt, number(1), number(2)), "1[2]")
	has(t, part(api.ExSet, part(api.ExSet, a, b, c), less, number(1)), "((a with [b] = c) with [(-a)] = 1)")
	has(t, clocked(api.ExWhen, "b", "false", clocked(api.ExWhen, "a", "Up", c)), "((c when Up(a)) when not b)")
	has(t, inAll(), allText)
	kinds := map[int]bool{}
	for p := range expr.Each(inAll()) {
		kinds[p.Kind] = true
	}
	if len(kinds) != 17 {
		t.Errorf("%d kinds in one another", len(kinds))
	}
}

// P10.1: the signs of all operators of two sides.
func TestSigns(t *testing.T) {
	signs := strings.Fields("+ - * / mod and or xor = <> < <= > >=")
	for op := 3; op <= 16; op++ {
		sign := signs[op-3]
		has(t, operation(op, vars("a b")...), "(a "+sign+" b)")
		has(t, operation(op, operation(op, vars("a b")...), number(1)), "((a "+sign+" b) "+sign+" 1)")
	}
}

// P10.1: numbers are told as their digits, without a sign or a nought ahead.
func TestNumbers(t *testing.T) {
	for n, digits := int64(1), "1"; len(digits) < 19; n, digits = n*10, digits+"0" {
		has(t, number(n), digits)
		has(t, number(n*9), "9"+digits[1:])
	}
	has(t, number(math.MaxInt32), "2147483647")
	has(t, number(math.MaxInt32+1), "2147483648")
	has(t, number(math.MaxUint32+1), "4294967296")
	has(t, number(math.MaxInt64-1), "9223372036854775806")
}

// P10.1: merges of 1 to MaxCtors arms, with true and false at each place of them.
func TestMerges(t *testing.T) {
	for n := 1; n <= 6; n++ {
		for i := range n {
			for j := range n {
				arms := strings.Fields("A B_1 Up Down Left ABCDEFGHIJKL")[:n]
				arms[i], arms[j] = "true", "false"
				e, s := clocked(api.ExMerge, "way", strings.Join(arms, " ")), "(merge way"
				for k, arm := range arms {
					e.Subs = append(e.Subs, number(int64(k)))
					s += " (" + arm + " -> " + strconv.Itoa(k) + ")"
				}
				has(t, e, s+")")
			}
		}
	}
}

// P10.1: calls of no argument to MaxPorts, with and without a reset; arrays of 1 cell to MaxArray.
func TestCallsAndArrays(t *testing.T) {
	names := strings.Fields("a b c d e g h i")
	for n := range 9 {
		args, texts := vars(strings.Join(names[:n], " ")), strings.Join(names[:n], ", ")
		if n <= 6 {
			has(t, call(0, args...), "f("+texts+")")
			has(t, call(1, append(slices.Clip(args), truth(1))...), "(f("+texts+") every true)")
		}
		if n >= 1 {
			has(t, part(api.ExArr, args...), "["+texts+"]")
		}
	}
	has(t, call(1), "")
	for n := 7; n < 20; n++ {
		l := slices.Repeat([]api.Expr{number(1)}, n)
		has(t, call(0, l...), "")
		has(t, call(1, append(l, number(1))...), "")
		has(t, part(api.ExArr, append(l, vars("a b")...)...), "")
	}
	has(t, part(api.ExArr), "")
}

// P10.1: names as their kinds have them; what is no such name is not right.
func TestNames(t *testing.T) {
	of := func(s string) []api.Expr {
		return []api.Expr{
			leaf(api.ExVar, s), leaf(api.ExCtor, s), leaf(api.ExOld, s), {Kind: api.ExCall, Name: s},
			clocked(api.ExWhen, s, "A", number(1)), {Kind: api.ExWhen, Name: "a", Arms: []string{s}, Subs: []api.Expr{number(1)}},
			clocked(api.ExMerge, s, "A", number(1)), {Kind: api.ExMerge, Name: "a", Arms: []string{s}, Subs: []api.Expr{number(1)}},
		}
	}
	is := func(s string, want ...string) {
		t.Helper()
		for i, e := range of(s) {
			has(t, e, want[i])
		}
	}
	is("a", "a", "", "'a'", "a()", "(1 when A(a))", "", "(merge a (A -> 1))", "")
	is("abcdefghijkl", "abcdefghijkl", "", "'abcdefghijkl'", "abcdefghijkl()", "(1 when A(abcdefghijkl))", "", "(merge abcdefghijkl (A -> 1))", "")
	is("B", "", "B", "", "", "", "(1 when B(a))", "", "(merge a (B -> 1))")
	is("False", "", "False", "", "", "", "(1 when False(a))", "", "(merge a (False -> 1))")
	is("true", "", "", "", "", "", "(1 when a)", "", "(merge a (true -> 1))")
	is("false", "", "", "", "", "", "(1 when not a)", "", "(merge a (false -> 1))")
	is("a/b.12", "", "", "'a/b.12'", "", "", "", "", "")
	for _, s := range []string{"tru", "truee", "falsey", "nodes", "i"} {
		is(s, s, "", "'"+s+"'", s+"()", "(1 when A("+s+"))", "", "(merge "+s+" (A -> 1))", "")
	}
	for _, s := range []string{"", " ", "a ", " a", "not", "node", "every", "_", "1", "a.0", "a//b", "'a'", "A.1", "a/A", "abcdefghijklm", "ABCDEFGHIJKLM", "\u00e4", "A\u00c4", "a\x00", "\xff", "True ", " true", "true ", "not c"} {
		is(s, slices.Repeat([]string{""}, 8)...)
	}
	long := strings.Repeat("abcdefghijkl.999/", 5000) + "a"
	has(t, leaf(api.ExOld, long), "'"+long+"'")
	has(t, buried(11, 0, leaf(api.ExOld, long)), wanted(buried(11, 0, leaf(api.ExOld, long))))
}

// P10.1: what is not right has an empty text, wherever the part is that spoils it.
func TestNotRight(t *testing.T) {
	spoil := []func(*api.Expr){
		func(p *api.Expr) { *p = api.Expr{} },
		func(p *api.Expr) { p.Kind = 0 },
		func(p *api.Expr) { p.Kind = 18 },
		func(p *api.Expr) { p.Kind = -p.Kind },
		func(p *api.Expr) { p.Kind += 1 << 32 },
		func(p *api.Expr) { p.N = -1 },
		func(p *api.Expr) { p.N = math.MinInt64 },
		func(p *api.Expr) { p.Name += "/" },
		func(p *api.Expr) { p.Name += "(" },
		func(p *api.Expr) { p.Op = 17 },
		func(p *api.Expr) { p.Op = -1 },
		func(p *api.Expr) { p.Arms = append(p.Arms, "Twice", "Twice") },
		func(p *api.Expr) { p.Arms = append(p.Arms, "") },
		func(p *api.Expr) { p.Subs = append(p.Subs, slices.Repeat([]api.Expr{number(1)}, 9)...) },
		func(p *api.Expr) { p.Subs = append(p.Subs, api.Expr{}) },
	}
	for _, e := range append(buriedAll(), inAll()) {
		for at := range places(e) {
			for _, s := range spoil {
				has(t, changed(e, at, s), "")
			}
			for n := range 12 {
				f := changed(e, at, func(p *api.Expr) { p.Subs = slices.Repeat([]api.Expr{number(1)}, n) })
				if got := show.Expr(f); (got != "") != expr.Right(f) {
					t.Errorf("%q of what is right: %v", got, expr.Right(f))
				}
			}
		}
	}
	for _, e := range []api.Expr{
		{}, part(18), part(-1), number(-1), truth(2), truth(-1), leaf(api.ExVar, ""), leaf(api.ExCtor, ""), leaf(api.ExOld, ""),
		operation(api.OpAdd, number(1)), operation(api.OpNeg, vars("a b")...), part(api.ExUn), part(api.ExBin), part(api.ExIf), part(api.ExFby), part(api.ExArrow), part(api.ExPre),
		part(api.ExWhen), part(api.ExMerge), part(api.ExCall), part(api.ExArr), part(api.ExAt), part(api.ExSet), call(1), call(2, number(1), number(2)),
		clocked(api.ExWhen, "a", "", number(1)), clocked(api.ExWhen, "a", "A B", number(1)), clocked(api.ExWhen, "a", "A"), clocked(api.ExMerge, "a", ""),
		clocked(api.ExMerge, "a", "A A", vars("a b")...), clocked(api.ExMerge, "a", "A B", vars("a")...), clocked(api.ExMerge, "a", "A", vars("a b")...),
		part(api.ExFby, vars("a b")...), part(api.ExFby, operation(api.OpNeg, leaf(api.ExVar, "a")), number(1)), operation(api.OpNeg, number(-1)),
	} {
		has(t, e, "")
		has(t, buried(9, 3, e), "")
	}
}

// buriedAll has parts of all kinds, as deep as may be.
func buriedAll() []api.Expr {
	var l []api.Expr
	for n := range 9 {
		for i, e := range heads(n) {
			e.Subs = slices.Repeat([]api.Expr{number(1)}, n)
			l = append(l, buried(api.MaxDepth-expr.Depth(e), i, e))
		}
	}
	return l
}

// P10.1: up to MaxTerms parts are told, and up to MaxDepth in one another; one more, and the text is empty.
func TestBounds(t *testing.T) {
	for n := 2; n <= 73; n++ {
		e := wide(n)
		if places(e) != n {
			t.Fatalf("%d parts, not %d", places(e), n)
		}
		want := ""
		if n <= 60 {
			want = wanted(e)
		}
		has(t, e, want)
	}
	for at := range wrappers(api.Expr{}) {
		for n := range 40 {
			want := ""
			if n < 12 {
				want = wanted(buried(n, at, number(1)))
			}
			has(t, buried(n, at, number(1)), want)
			of := number(1)
			for range n {
				of = wrappers(of)[at]
			}
			if got := show.Expr(of); (got != "") != (n < 12) || got != "" && got != wanted(of) {
				t.Errorf("%d in one another: %q", n+1, got)
			}
		}
	}
	has(t, buried(11, 0, leaf(api.ExVar, "x")), "(((a with [a] = (0 fby (merge c (Up -> a) (Down -> a[((if a then [a, (not (pre x))] else a) - a)])))) when not b) -> a)")
	// Just so great and just so deep at once, and one more of either.
	for _, b := range []struct {
		deep, wide int
		right      bool
	}{{11, 48, true}, {11, 49, false}, {12, 47, false}, {12, 48, false}} {
		e := part(api.ExArr, buried(b.deep-1, 0, number(1)), number(1))
		e.Subs[1] = wide(b.wide - (places(e.Subs[0]) - b.deep))
		if places(e) != 1+b.deep+b.wide || expr.Depth(e) != 1+b.deep {
			t.Fatal(places(e), expr.Depth(e))
		}
		want := ""
		if b.right {
			want = wanted(e)
		}
		has(t, e, want)
	}
}

// P10.1: what is far too great or too deep is soon told.
func TestFarBeyond(t *testing.T) {
	e := number(1)
	for range 1<<16 - 1 {
		e = part(api.ExPre, e)
	}
	if got := show.Expr(e); got != "" {
		t.Errorf("%.100q", got)
	}
	if got := show.Expr(part(api.ExArr, slices.Repeat([]api.Expr{number(1)}, 1<<20)...)); got != "" {
		t.Errorf("%.100q", got)
	}
}

// P10.1: On asks nothing of what its texts are.
func TestOn(t *testing.T) {
	is := func(name, arm, want string) {
		t.Helper()
		if got := show.On(name, arm); got != want {
			t.Errorf("On(%q, %q): %q, not %q", name, arm, got, want)
		}
	}
	is("c", "true", "c")
	is("c", "false", "not c")
	is("c", "Up", "Up(c)")
	is("way", "Down_1", "Down_1(way)")
	is("", "", "()")
	is("", "true", "")
	is("", "false", "not ")
	is("", "Up", "Up()")
	is("c", "", "(c)")
	is("true", "true", "true")
	is("false", "true", "false")
	is("false", "false", "not false")
	is("true", "A", "A(true)")
	is("not c", "false", "not not c")
	is("A b", "a b", "a b(A b)")
	is("\x00\xff", "\xff", "\xff(\x00\xff)")
	is("\u00e4", "\u00c4", "\u00c4(\u00e4)")
	long := strings.Repeat("x", 100000)
	is(long, "true", long)
	is(long, "false", "not "+long)
	is(long, long, long+"("+long+")")
	for _, arm := range []string{"True", "TRUE", "tRue", "truE", "true ", " true", "tru", "rue", "truee", "ttrue", "true\x00", "true\n", "1", "t", "not", "True()", "False", "FALSE", "fals", "alse", "falsee", "false ", " false", "fal se", "0", "f", "not c", "falsetrue", "truefalse"} {
		for _, name := range []string{"c", "", "true", "false", "C", "a b"} {
			is(name, arm, arm+"("+name+")")
		}
	}
}

// P10.1: an ExWhen tells its name and its arm as On does.
func TestWhen(t *testing.T) {
	for _, name := range []string{"a", "tru", "not_", "abcdefghijkl"} {
		for _, arm := range []string{"true", "false", "A", "True", "Not", "ABCDEFGHIJKL"} {
			has(t, clocked(api.ExWhen, name, arm, number(1)), "(1 when "+show.On(name, arm)+")")
		}
	}
}

// P10.1: what chance grows is told by the rows of the table, each row wherever it stands.
func TestGrown(t *testing.T) {
	r := rand.New(rand.NewPCG(10, 30))
	great, deep, kinds := 0, 0, map[int]int{}
	for range 4000 {
		left := 59
		e := grow(r, 1+r.IntN(12), &left)
		if !expr.Right(e) {
			t.Fatalf("grown, and not right: %q", wanted(e))
		}
		has(t, e, wanted(e))
		if expr.Size(e) > 40 {
			great++
		}
		if expr.Depth(e) > 5 {
			deep++
		}
		for p := range expr.Each(e) {
			kinds[p.Kind]++
		}
	}
	if great < 500 || deep < 500 || len(kinds) != 17 {
		t.Errorf("%d great, %d deep, of kinds %v", great, deep, kinds)
	}
}
