package expr_test

import (
	"math"
	"math/rand/v2"
	"reflect"
	"slices"
	"strings"
	"testing"

	"noria/api"
	"noria/expr"
)

// isConst holds what Const tells of e against want.
func isConst(t *testing.T, e api.Expr, want bool) {
	t.Helper()
	asks(t, "Const", expr.Const, e, want)
}

// singles are constants that are no arrays.
func singles() []api.Expr {
	return []api.Expr{num(0), num(1), num(math.MaxInt64), truth(0), truth(1), ctor("A"), un(api.OpNeg, num(0)), un(api.OpNeg, num(1))}
}

// P9.2: numbers, truths, constructors, and numbers that are turned, are constants, and arrays of such.
func TestConst(t *testing.T) {
	for _, a := range singles() {
		isConst(t, a, true)
		isConst(t, of(api.ExArr, a), true)
		for _, b := range singles() {
			isConst(t, of(api.ExArr, a, b), true)
			isConst(t, of(api.ExArr, b, a, a, b, a, a, a, b), true)
		}
	}
	for _, e := range append(samples(), all()) {
		isConst(t, e, constant(e))
	}
}

// P9.2: nothing else is a constant, nor is an array with something else in it, at whatever place.
func TestNotConst(t *testing.T) {
	not := []api.Expr{
		{}, variable("a"), named(api.ExOld, "a"), un(api.OpNot, num(1)), un(api.OpNot, truth(1)), un(api.OpNeg, truth(1)), un(api.OpNeg, ctor("A")), un(api.OpNeg, variable("a")),
		un(api.OpNeg, un(api.OpNeg, num(1))), un(api.OpNeg, of(api.ExArr, num(1))), un(0, num(1)), un(-1, num(1)), un(api.OpAdd, num(1)), un(api.OpSub, num(1)), un(257, num(1)), un(math.MaxInt, num(1)),
		{Kind: api.ExUn, Op: api.OpNeg}, {Kind: api.ExUn, Op: api.OpNeg, Subs: []api.Expr{num(1), num(2)}}, {Kind: api.ExUn, Op: api.OpNeg, Subs: []api.Expr{num(1), variable("a")}}, {Kind: api.ExUn, Op: api.OpNeg, Subs: []api.Expr{variable("a"), num(1)}},
		sum(), bin(api.OpAdd, num(1), num(2)), bin(api.OpNeg, num(1), num(2)), of(api.ExIf, truth(1), num(1), num(2)), of(api.ExFby, num(1), num(2)), of(api.ExArrow, num(1), num(2)),
		of(api.ExPre, num(1)), when(num(1), "a", "A"), merge("a", upto(1), num(1)), call(0, "f"), call(0, "f", num(1)), of(api.ExAt, of(api.ExArr, num(1)), num(0)), of(api.ExSet, of(api.ExArr, num(1)), num(0), num(2)),
		of(-1), of(18, num(1)), of(17), of(math.MaxInt), of(257), of(1<<32 + 1),
	}
	for _, e := range not {
		isConst(t, e, false)
	}
	arrays := []api.Expr{of(api.ExArr, num(1)), of(api.ExArr), of(api.ExArr, of(api.ExArr))}
	for _, e := range append(not, arrays...) {
		for n := 1; n <= 9; n++ {
			for at := range n {
				l := slices.Repeat([]api.Expr{num(1)}, n)
				l[at] = e
				isConst(t, of(api.ExArr, l...), false)
			}
		}
	}
}

// P9.2: Const asks Kind, Op and the Kinds of Subs alone, and whether there is one more array.
func TestConstOfWrong(t *testing.T) {
	spoilt := func(p *api.Expr) {
		p.N, p.Name, p.Arms = math.MinInt64, "if", []string{"", "", "x"}
	}
	l := singles()
	for _, e := range singles() {
		spoilt(&e)
		if e.Kind != api.ExUn {
			e.Op = 77
			l = append(l, e)
			e.Subs = many(3)
		} else {
			spoilt(&e.Subs[0])
			e.Subs[0].Op, e.Subs[0].Subs = -3, many(2)
		}
		l = append(l, e)
	}
	for _, e := range l {
		isConst(t, e, true)
		isConst(t, of(api.ExArr, e), true)
	}
	e := of(api.ExArr, slices.Concat(l, l, l)...)
	isConst(t, e, true)
	spoilt(&e)
	e.Op = api.OpNot
	isConst(t, e, true)
	// In an array of nothing there is nothing that is no constant.
	isConst(t, of(api.ExArr), true)
}

// P9.2: of all kinds, operators and Kinds of one or two Subs just those are constants.
func TestConstOfAll(t *testing.T) {
	for kind := -1; kind <= 18; kind++ {
		for op := -1; op <= 17; op++ {
			e := api.Expr{Kind: kind, Op: op}
			isConst(t, e, kind == 1 || kind == 2 || kind == 4 || kind == 14)
			for i := -1; i <= 18; i++ {
				e.Subs = []api.Expr{of(i)}
				one := i == 1 || i == 2 || i == 4
				isConst(t, e, kind == 1 || kind == 2 || kind == 4 || kind == 5 && op == 1 && i == 1 || kind == 14 && one)
				for j := -1; j <= 18; j++ {
					e.Subs = []api.Expr{of(i), of(j)}
					isConst(t, e, kind == 1 || kind == 2 || kind == 4 || kind == 14 && one && (j == 1 || j == 2 || j == 4))
				}
			}
		}
	}
}

// same holds what Same tells of a and b, both ways round, against want: as they are handed in, with empty lists and with none; it changes none of them.
func same(t *testing.T, a, b api.Expr, want bool) {
	t.Helper()
	asA, asB := copied(a), copied(b)
	for _, c := range []api.Expr{a, empty(a), none(a)} {
		for _, d := range []api.Expr{b, empty(b), none(b)} {
			if expr.Same(c, d) != want || expr.Same(d, c) != want {
				t.Errorf("Same of %s and %s is %v, and the other way round %v", cut(c), cut(d), expr.Same(c, d), expr.Same(d, c))
			}
		}
	}
	if !reflect.DeepEqual(a, asA) || !reflect.DeepEqual(b, asB) {
		t.Errorf("Same of %s and %s has changed them", cut(asA), cut(asB))
	}
}

// P9.1: each expression is the same as a copy of it, and as no other.
func TestSame(t *testing.T) {
	l := append(samples(), all(), api.Expr{}, of(18), of(api.ExNum, num(0)), of(api.ExArr))
	for i, a := range l {
		for j, b := range l {
			same(t, a, copied(b), i == j)
			same(t, of(api.ExPre, a), of(api.ExPre, b), i == j)
			same(t, of(api.ExIf, num(0), num(1), a), of(api.ExIf, num(0), num(1), b), i == j)
		}
	}
}

// P9.1: trees of two shapes are not the same.
func TestSameShapes(t *testing.T) {
	var l []api.Expr
	shapes(6, func(e api.Expr) {
		l = append(l, e)
		for at := range parts(e) {
			// Nothing but the shape is left to tell them by.
			l[len(l)-1] = changed(l[len(l)-1], at, func(p *api.Expr) { *p = of(api.ExArr, p.Subs...) })
		}
	})
	for i, a := range l {
		for j, b := range l {
			if expr.Same(a, b) != (i == j) {
				t.Errorf("Same of %s and %s is %v", cut(a), cut(b), i != j)
			}
		}
	}
}

// differences are changes of one field, each such that it leaves nothing as it was; some change nothing, where the field is empty.
func differences() []func(*api.Expr) {
	return []func(*api.Expr){
		func(p *api.Expr) { p.Kind++ },
		func(p *api.Expr) { p.Kind = -p.Kind },
		func(p *api.Expr) { p.Kind += 1 << 32 },
		func(p *api.Expr) { p.N++ },
		func(p *api.Expr) { p.N ^= math.MinInt64 },
		func(p *api.Expr) { p.N ^= 1 << 32 },
		func(p *api.Expr) { p.Name += "x" },
		func(p *api.Expr) { p.Name += "\x00" },
		func(p *api.Expr) { p.Name = strings.ToUpper(p.Name) + strings.ToLower(p.Name) },
		func(p *api.Expr) { p.Name = p.Name[:max(len(p.Name)-1, 0)] },
		func(p *api.Expr) { p.Op++ },
		func(p *api.Expr) { p.Op = -1 },
		func(p *api.Expr) { p.Op += 1 << 32 },
		func(p *api.Expr) { p.Arms = append(p.Arms, "") },
		func(p *api.Expr) { p.Arms = append(p.Arms, "Up") },
		func(p *api.Expr) { p.Arms = append([]string{"Up"}, p.Arms...) },
		func(p *api.Expr) { p.Arms = p.Arms[:max(len(p.Arms)-1, 0)] },
		func(p *api.Expr) { p.Arms = p.Arms[min(len(p.Arms), 1):] },
		func(p *api.Expr) { p.Arms = nil },
		func(p *api.Expr) { slices.Reverse(p.Arms) },
		func(p *api.Expr) { p.Arms = strings.Fields(strings.Join(p.Arms, "")) },
		func(p *api.Expr) { p.Subs = append(p.Subs, api.Expr{}) },
		func(p *api.Expr) { p.Subs = append([]api.Expr{{}}, p.Subs...) },
		func(p *api.Expr) { p.Subs = append(p.Subs, p.Subs...) },
		func(p *api.Expr) { p.Subs = p.Subs[:max(len(p.Subs)-1, 0)] },
		func(p *api.Expr) { p.Subs = p.Subs[min(len(p.Subs), 1):] },
		func(p *api.Expr) { p.Subs = nil },
		func(p *api.Expr) { slices.Reverse(p.Subs) },
		func(p *api.Expr) { *p = of(api.ExPre, *p) },
	}
}

// P9.1: expressions that differ in one field of one part, wherever it is, are not the same.
func TestSameButOne(t *testing.T) {
	did := make([]int, len(differences()))
	for _, e := range append(samples(), all(), nested(12, all()), nested(150, sum())) {
		n := len(parts(e))
		for at := range n {
			if n > 100 && at > 2 && at < n-3 {
				continue
			}
			for i, change := range differences() {
				f := changed(e, at, change)
				want := reflect.DeepEqual(none(e), none(f))
				same(t, e, f, want)
				if !want {
					did[i]++
				}
			}
			for k := range parts(e)[at].Arms {
				same(t, e, changed(e, at, func(p *api.Expr) { p.Arms[k] += "x" }), false)
				same(t, e, changed(e, at, func(p *api.Expr) { p.Arms[k] = "" }), false)
			}
		}
	}
	if slices.Contains(did, 0) {
		t.Errorf("a change never changed anything: %v", did)
	}
}

// grow is a right expression, of parts that chance tells; *left is how many more there may be.
func grow(r *rand.Rand, depth int, left *int) api.Expr {
	leaves := []api.Expr{num(r.Int64()), truth(r.Int64N(2)), variable("a"), variable("b9"), ctor("Up"), named(api.ExOld, "a/b.7")}
	e := api.Expr{Kind: 1 + r.IntN(17)}
	switch e.Kind {
	case api.ExUn:
		e.Op = 1 + r.IntN(2)
	case api.ExBin:
		e.Op = 3 + r.IntN(14)
	case api.ExWhen:
		e.Name, e.Arms = "c", []string{upto(6)[r.IntN(6)]}
	case api.ExMerge:
		e.Name, e.Arms = "d", upto(1+r.IntN(6))
	case api.ExCall:
		e.Name, e.N = "f", r.Int64N(2)
	}
	least, most := counts(e)
	n := least + r.IntN(most-least+1)
	if most == 0 || depth < 4 || n > *left {
		return leaves[r.IntN(len(leaves))]
	}
	*left -= n
	for i := range n {
		if e.Kind == api.ExFby && i == 0 {
			e.Subs = append(e.Subs, singles()[r.IntN(7)])
			*left--
			continue
		}
		e.Subs = append(e.Subs, grow(r, depth-1, left))
	}
	return e
}

// P9.1 to P9.4: what chance grows is right; Each has Size parts, in their order, and all of them are right.
func TestGrown(t *testing.T) {
	r := rand.New(rand.NewPCG(9, 27))
	great := 0
	for range 20000 {
		left := 54
		e := grow(r, 1+r.IntN(12), &left)
		tells(t, e)
		laws(t, e)
		if expr.Size(e) > 20 {
			great++
		}
	}
	if great < 500 {
		t.Errorf("%d are great", great)
	}
}

// laws holds e, which is right, against P9.4.
func laws(t *testing.T, e api.Expr) {
	t.Helper()
	right(t, e, true)
	n := 0
	for p := range expr.Each(e) {
		n++
		if !expr.Right(p) {
			t.Errorf("%s is a part of %s, and not right", cut(p), cut(e))
		}
	}
	if n != expr.Size(e) {
		t.Errorf("%s has %d parts, and Size %d", cut(e), n, expr.Size(e))
	}
}

// P9.4: Each has Size parts; parts of what is right are right.
func TestLaws(t *testing.T) {
	for _, e := range append(samples(), all(), nested(12, variable("a"))) {
		laws(t, e)
	}
	for size := 1; size <= 60; size++ {
		for depth := 1; depth <= 12; depth++ {
			if e, ok := grown(size, depth); ok {
				laws(t, e)
			}
		}
	}
	// Of what is not right Each has Size parts as well.
	shapes(7, func(e api.Expr) {
		if n := len(gone(expr.Each(e))); n != expr.Size(e) {
			t.Errorf("%s has %d parts, and Size %d", cut(e), n, expr.Size(e))
		}
	})
}
