package expr_test

import (
	"math"
	"slices"
	"strings"
	"testing"

	"noria/api"
	"noria/expr"
)

// right holds what Right tells of e against want.
func right(t *testing.T, e api.Expr, want bool) {
	t.Helper()
	asks(t, "Right", expr.Right, e, want)
}

// P9.2: an expression of each kind is right, and all in one another.
func TestRight(t *testing.T) {
	for _, e := range append(samples(), all()) {
		right(t, e, true)
	}
}

// P9.2: there are no kinds but 1 to 17, whatever else is there.
func TestNoKinds(t *testing.T) {
	for _, kind := range []int{math.MinInt, math.MinInt32, -17, -2, -1, 0, 18, 19, 20, 100, 255, 256, 257, 1 << 16, 1<<32 + 1, math.MaxInt32, math.MaxInt} {
		right(t, of(kind), false)
		for _, e := range append(samples(), all()) {
			e.Kind = kind
			right(t, e, false)
			if expr.Const(e) {
				t.Errorf("%s is Const", cut(e))
			}
			tells(t, e)
		}
	}
}

// fields are the fields that a kind names, a letter each: N, A of Name, O of Op, R of Arms.
func fields(kind int) string {
	switch kind {
	case api.ExNum, api.ExBool:
		return "N"
	case api.ExVar, api.ExCtor, api.ExOld:
		return "A"
	case api.ExUn, api.ExBin:
		return "O"
	case api.ExWhen, api.ExMerge:
		return "AR"
	case api.ExCall:
		return "AN"
	}
	return ""
}

// P9.2: a field that the kind does not name is zero.
func TestOtherFields(t *testing.T) {
	for _, e := range append(samples(), all()) {
		has := fields(e.Kind)
		f := e
		if !strings.Contains(has, "N") {
			for _, f.N = range []int64{1, -1, 2, 256, 1 << 32, math.MaxInt64, math.MinInt64} {
				right(t, f, false)
			}
		}
		f = e
		if !strings.Contains(has, "A") {
			for _, f.Name = range []string{"a", "A", "a/b", " ", "\x00", "true", "if", "abcdefghijklm"} {
				right(t, f, false)
			}
		}
		f = e
		if !strings.Contains(has, "O") {
			for _, f.Op = range []int{1, 2, 3, 16, 17, -1, 256, math.MaxInt, math.MinInt} {
				right(t, f, false)
			}
		}
		f = e
		if !strings.Contains(has, "R") {
			for _, f.Arms = range [][]string{{""}, {"A"}, {"true"}, {"A", "B"}, {"", ""}} {
				right(t, f, false)
			}
		}
	}
}

// counts tells from how many Subs to how many a part may have.
func counts(e api.Expr) (int, int) {
	switch e.Kind {
	case api.ExNum, api.ExBool, api.ExVar, api.ExCtor, api.ExOld:
		return 0, 0
	case api.ExUn, api.ExPre, api.ExWhen:
		return 1, 1
	case api.ExBin, api.ExFby, api.ExArrow, api.ExAt:
		return 2, 2
	case api.ExIf, api.ExSet:
		return 3, 3
	case api.ExMerge:
		return len(e.Arms), len(e.Arms)
	case api.ExCall:
		return int(e.N), 6 + int(e.N)
	case api.ExArr:
		return 1, 8
	}
	return 1, 0
}

// P9.2: each kind has as many Subs as it asks, not one fewer or one more.
func TestCounts(t *testing.T) {
	for _, e := range samples() {
		least, most := counts(e)
		for n := range 62 {
			e.Subs = nil
			for range n {
				// A number may stand everywhere, as a constant, too.
				e.Subs = append(e.Subs, num(1))
			}
			right(t, e, least <= n && n <= most)
		}
	}
}

// P9.2: ExArr has from 1 to MaxArray Subs.
func TestArrays(t *testing.T) {
	for n := range 70 {
		right(t, of(api.ExArr, many(n)...), 1 <= n && n <= api.MaxArray)
	}
}

// P9.2: ExCall has from N to MaxPorts and N Subs; N is 0 or 1.
func TestCalls(t *testing.T) {
	for n := range 12 {
		right(t, call(0, "f", many(n)...), n <= api.MaxPorts)
		right(t, call(1, "f", many(n)...), 1 <= n && n <= api.MaxPorts+1)
		for _, wrong := range []int64{-1, -2, 2, 3, 6, 7, 255, 256, 257, 1 << 32, 1<<32 + 1, math.MaxInt64, math.MinInt64, math.MaxInt64 - 5} {
			right(t, call(wrong, "f", many(n)...), false)
		}
	}
}

// P9.2: ExMerge has from 1 to MaxCtors arms, and as many Subs.
func TestMerges(t *testing.T) {
	for arms := range 9 {
		for n := range 10 {
			right(t, merge("a", upto(arms), many(n)...), 1 <= arms && arms <= api.MaxCtors && n == arms)
		}
	}
}

// P9.2: ExWhen has one arm.
func TestWhens(t *testing.T) {
	for arms := range 9 {
		e := when(variable("a"), "b", "")
		e.Arms = upto(arms)
		right(t, e, arms == 1)
	}
}

// P9.2: N of ExNum is from 0 on, of ExBool 0 or 1.
func TestNumbers(t *testing.T) {
	for _, n := range []int64{0, 1, 2, 3, 9, 10, 255, 256, 257, 1 << 31, 1 << 32, 1<<32 + 1, 1 << 62, math.MaxInt64 - 1, math.MaxInt64} {
		right(t, num(n), true)
		right(t, truth(n), n < 2)
	}
	for _, n := range []int64{-1, -2, -255, -256, -1 << 31, -1 << 32, math.MinInt64 + 1, math.MinInt64} {
		right(t, num(n), false)
		right(t, truth(n), false)
	}
}

// P9.2: ExUn has OpNeg or OpNot, ExBin one from OpAdd to OpGe.
func TestOperators(t *testing.T) {
	ops := []int{math.MinInt, math.MaxInt, 256, 257, 1<<32 + 1, 1<<32 + 3, -256}
	for op := -20; op <= 40; op++ {
		ops = append(ops, op)
	}
	for _, op := range ops {
		right(t, un(op, variable("a")), op == 1 || op == 2)
		right(t, bin(op, variable("a"), variable("b")), 3 <= op && op <= 16)
	}
}

func words() []string {
	return strings.Fields("node returns var let tel enum if then else fby pre when merge every not and or xor mod true false int bool with")
}

// P9.2: names are low, high or paths, as their kinds ask.
func TestNames(t *testing.T) {
	lows := []string{"a", "z", "x9", "a_1", "aB", "nodes", "tru", "falsey", "abcdefghijkl"}
	highs := []string{"A", "Z", "X9", "A_1", "Ab", "Node", "True", "ABCDEFGHIJKL"}
	paths := []string{"a/b", "a.1", "a/b.12", "a.999/b/c.1", "abcdefghijkl.999/abcdefghijkl.999"}
	others := []string{
		"", " ", "_", "_a", "0", "1a", "a b", "a ", " a", "a-", "a\x00", "\u00e4", "a\u00e4", "A\u00c4", "'a'", "a/", "/a", "a//b", "a.0", "a.1000", "a.01", "a/A", "A/a", "A.1", "a.", "if/a", "a/if", "if.1",
		"abcdefghijklm", "ABCDEFGHIJKLM", "a/abcdefghijklm", strings.Repeat("a", 1000), "\xff", "a\xff", "A\xff",
	}
	is := func(s string, low, high, path bool) {
		t.Helper()
		right(t, variable(s), low)
		right(t, ctor(s), high)
		right(t, named(api.ExOld, s), path)
		right(t, when(num(1), s, "A"), low)
		right(t, merge(s, upto(2), num(1), num(2)), low)
		right(t, call(0, s), low)
		right(t, call(1, s, num(1)), low)
	}
	for _, s := range lows {
		is(s, true, false, true)
	}
	for _, s := range highs {
		is(s, false, true, false)
	}
	for _, s := range paths {
		is(s, false, false, true)
	}
	for _, s := range append(others, words()...) {
		is(s, false, false, false)
	}
}

// P9.2: arms are high, true or false.
func TestArms(t *testing.T) {
	may := []string{"A", "Z", "Up", "X9_", "True", "False", "Node", "ABCDEFGHIJKL", "true", "false"}
	not := []string{
		"", " ", "a", "up", "x9", "abcdefghijkl", "truE", "tru", "truee", "true ", " true", "fals", "falsey", "trUe", "0", "1", "_", "_A",
		"ABCDEFGHIJKLM", "A B", "A ", " A", "A/B", "A.1", "a/b", "A\x00", "A\xff", "\u00c4", "A\u00e4", strings.Repeat("A", 1000),
	}
	for _, s := range words() {
		if s != "true" && s != "false" {
			not = append(not, s)
		}
	}
	is := func(s string, want bool) {
		t.Helper()
		right(t, when(num(1), "a", s), want)
		right(t, merge("a", []string{s}, num(1)), want)
		for n := 2; n <= api.MaxCtors; n++ {
			for at := range n {
				l := strings.Fields("B C D E F G")[:n]
				l[at] = s
				right(t, merge("a", l, many(n)...), want)
			}
		}
	}
	for _, s := range may {
		is(s, true)
	}
	for _, s := range not {
		is(s, false)
	}
}

// P9.2: no arm of ExMerge stands twice.
func TestArmsOnce(t *testing.T) {
	for n := 2; n <= api.MaxCtors; n++ {
		for i := range n {
			for j := range n {
				for _, s := range []string{"Twice", "true", "false", "B"} {
					l := strings.Fields("C D E F G H")[:n]
					l[i], l[j] = s, s
					right(t, merge("a", l, many(n)...), i == j)
				}
			}
		}
	}
	right(t, merge("a", []string{"true", "True"}, many(2)...), true)
	right(t, merge("a", []string{"A", "Aa"}, many(2)...), true)
}

// P9.2: the first Sub of ExFby is a constant, whatever the second one is.
func TestFby(t *testing.T) {
	firsts := slices.Concat(samples(), []api.Expr{
		all(), un(api.OpNeg, truth(1)), un(api.OpNeg, ctor("A")), un(api.OpNot, num(1)), un(api.OpNot, truth(1)), un(api.OpNeg, un(api.OpNeg, num(1))),
		of(api.ExArr, num(1)), of(api.ExArr, ctor("A"), truth(1)), of(api.ExArr, of(api.ExArr, num(1))), of(api.ExArr, num(1), variable("a")), bin(api.OpAdd, num(1), num(2)),
	})
	for _, a := range firsts {
		for _, b := range []api.Expr{num(1), variable("a"), un(api.OpNot, variable("a")), of(api.ExFby, num(1), variable("a"))} {
			right(t, of(api.ExFby, a, b), constant(a))
		}
	}
	// What is Const may still not be right.
	for _, a := range []api.Expr{num(-1), truth(2), ctor("a"), ctor(""), un(api.OpNeg, num(-1)), of(api.ExArr), of(api.ExArr, make([]api.Expr, 0)...), {Kind: api.ExNum, Name: "a"}} {
		if !expr.Const(a) {
			t.Errorf("%s is not Const", cut(a))
		}
		right(t, of(api.ExFby, a, num(1)), false)
	}
}

// widest is the greatest Size of a right expression's part that is so deep, without the limits.
func widest(depth int) int {
	n := 1
	for range depth - 1 {
		n = min(1+api.MaxArray*n, 1000)
	}
	return n
}

// grown is an expression of that Size and Depth, all of whose parts are as their kinds ask; false, if there is none.
func grown(size, depth int) (api.Expr, bool) {
	if depth == 1 {
		return variable("a"), size == 1
	}
	if size < depth || size > widest(depth) {
		return api.Expr{}, false
	}
	left := size - 1
	e := of(api.ExArr)
	for first := true; left > 0; first = false {
		n, d := min(left, widest(depth-1)), depth-1
		for !first && d > 1 && (n < d || n <= widest(d-1)) {
			d--
		}
		s, ok := grown(n, d)
		if !ok {
			return api.Expr{}, false
		}
		// The deep part stands first or last, by the size.
		e.Subs = append(e.Subs, s)
		if size%2 == 0 {
			slices.Reverse(e.Subs)
		}
		left -= n
	}
	return e, true
}

// P9.2: Size is at most MaxTerms, Depth at most MaxDepth, and both are held.
func TestSizesAndDepths(t *testing.T) {
	tried := map[[2]int]bool{}
	for size := 1; size <= 130; size++ {
		for depth := 1; depth <= 30; depth++ {
			e, ok := grown(size, depth)
			if !ok {
				continue
			}
			tried[[2]int{size, depth}] = true
			if expr.Size(e) != size || expr.Depth(e) != depth {
				t.Fatalf("grown to %d, %d: %d, %d", size, depth, expr.Size(e), expr.Depth(e))
			}
			right(t, e, size <= api.MaxTerms && depth <= api.MaxDepth)
		}
	}
	for _, size := range []int{59, 60, 61} {
		for _, depth := range []int{3, 4, 11, 12, 13, 14} {
			if !tried[[2]int{size, depth}] {
				t.Errorf("Size %d and Depth %d are not tried", size, depth)
			}
		}
	}
}

// P9.2: Depth is at most MaxDepth in chains, wherever the deep one stands.
func TestDepths(t *testing.T) {
	for n := 1; n <= 70; n++ {
		right(t, nested(n, variable("a")), n <= api.MaxDepth)
		for at := range 3 {
			e := of(api.ExIf, many(3)...)
			e.Subs[at] = nested(n, variable("a"))
			right(t, e, n+1 <= api.MaxDepth)
		}
	}
}

// P9.2: one part that is wrong, wherever it is, spoils the whole.
func TestWrongPart(t *testing.T) {
	changes := []func(*api.Expr){
		func(p *api.Expr) { p.Kind = 0 },
		func(p *api.Expr) { p.Kind = 18 },
		func(p *api.Expr) { p.Kind = -p.Kind },
		func(p *api.Expr) { p.N = -1 },
		func(p *api.Expr) { p.N = math.MinInt64 },
		func(p *api.Expr) { p.Name += "/" },
		func(p *api.Expr) { p.Name += " " },
		func(p *api.Expr) { p.Op += 16 },
		func(p *api.Expr) { p.Op = -1 },
		func(p *api.Expr) { p.Arms = append(p.Arms, "Twice", "Twice") },
		func(p *api.Expr) { p.Arms = append(p.Arms, "") },
		func(p *api.Expr) { p.Subs = append(p.Subs, many(9)...) },
		func(p *api.Expr) { p.Subs = append(p.Subs, api.Expr{}) },
		func(p *api.Expr) { *p = api.Expr{} },
	}
	for _, e := range append(samples(), all()) {
		for at := range parts(e) {
			for _, change := range changes {
				right(t, changed(e, at, change), false)
			}
			// A variable that spoils nothing, but where a constant must be.
			f := changed(e, at, func(p *api.Expr) { *p = variable("y") })
			right(t, f, fits(f))
		}
	}
}

// fits tells, beside Right, whether all parts of e are as their kinds ask, of what is neither too great nor too deep.
func fits(e api.Expr) bool {
	for _, p := range parts(e) {
		least, most := counts(p)
		if len(p.Subs) < least || len(p.Subs) > most || p.Kind == api.ExFby && !constant(p.Subs[0]) {
			return false
		}
	}
	return true
}

// constant tells, beside Const, whether e is a constant.
func constant(e api.Expr) bool {
	one := func(e api.Expr) bool {
		negated := e.Kind == 5 && e.Op == 1 && len(e.Subs) == 1 && e.Subs[0].Kind == 1
		return slices.Contains([]int{1, 2, 4}, e.Kind) || negated
	}
	return one(e) || e.Kind == 14 && !slices.ContainsFunc(e.Subs, func(s api.Expr) bool { return !one(s) })
}

// whole tells, beside Right, whether a part with the names and arms of TestSmall is as its kind asks.
func whole(e api.Expr) bool {
	has := fields(e.Kind)
	bit := e.N == 0 || e.N == 1
	low := e.Name == "a"
	arms := slices.Contains([]string{"[A]", "[true]", "[A true]"}, "["+strings.Join(e.Arms, " ")+"]")
	named := map[int]bool{
		api.ExNum: e.N >= 0, api.ExBool: bit, api.ExVar: low, api.ExCtor: e.Name == "A", api.ExOld: low || e.Name == "a/b",
		api.ExUn: e.Op == 1 || e.Op == 2, api.ExBin: e.Op == 3 || e.Op == 16,
		api.ExWhen: low && arms && len(e.Arms) == 1, api.ExMerge: low && arms, api.ExCall: low && bit,
		api.ExIf: true, api.ExFby: len(e.Subs) == 2 && constant(e.Subs[0]), api.ExArrow: true, api.ExPre: true, api.ExArr: true, api.ExAt: true, api.ExSet: true,
	}
	bare := (e.N == 0 || strings.Contains(has, "N")) && (e.Name == "" || strings.Contains(has, "A")) &&
		(e.Op == 0 || strings.Contains(has, "O")) && (len(e.Arms) == 0 || strings.Contains(has, "R"))
	least, most := counts(e)
	return named[e.Kind] && bare && least <= len(e.Subs) && len(e.Subs) <= most
}

// P9.2: of parts with chosen fields of all kinds, and Subs that are right, just those are right that are as their kinds ask.
func TestSmall(t *testing.T) {
	subs := [][]api.Expr{{variable("a"), num(1)}, {of(api.ExArr, num(1)), variable("a")}, {of(api.ExArr, variable("a")), num(1)}}
	for n := range 10 {
		subs = append(subs, slices.Repeat([]api.Expr{num(1)}, n))
	}
	tried, found := 0, 0
	for kind := 0; kind <= 18; kind++ {
		for _, n := range []int64{-1, 0, 1, 2, 7} {
			for _, name := range []string{"", "a", "A", "a/b", "if"} {
				for _, op := range []int{0, 1, 2, 3, 16, 17} {
					for _, arms := range [][]string{nil, {"A"}, {"true"}, {"a"}, {"A", "true"}, {"A", "A"}} {
						for _, l := range subs {
							e := api.Expr{Kind: kind, N: n, Name: name, Op: op, Arms: arms, Subs: l}
							want := whole(e)
							if expr.Right(e) != want {
								t.Errorf("Right of %s is %v", cut(e), !want)
							}
							tried++
							if want {
								found++
							}
						}
					}
				}
			}
		}
	}
	if tried != 19*5*5*6*6*13 || found < 60 {
		t.Errorf("of %d parts %d are right", tried, found)
	}
}
