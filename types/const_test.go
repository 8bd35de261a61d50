package types_test

import (
	"fmt"
	"math"
	"math/rand/v2"
	"slices"
	"strings"
	"testing"

	"noria/api"
	"noria/types"
	"noria/val"
)

// constant holds what Const tells of e, where the enums are l, against a type and values; and P16.4.
func constant(t *testing.T, l []api.Enum, e api.Expr, want api.Ty, v ...int64) {
	t.Helper()
	as := fmt.Sprintf("%+v %+v", l, e)
	for range 2 {
		n, u, ok := types.Const(l, e)
		if !slices.Equal(n, v) || u != want || !ok {
			t.Fatalf("Const is %v, %+v, %v, not %v, %+v, of %s", n, u, ok, v, want, cut(e))
		}
		if !val.Right(l, u, n) {
			t.Fatalf("%v is no value of %+v: %s", n, u, cut(e))
		}
	}
	if fmt.Sprintf("%+v %+v", l, e) != as {
		t.Fatalf("Const has changed %s", as)
	}
}

// noConstant holds that Const tells nothing of e.
func noConstant(t *testing.T, l []api.Enum, e api.Expr) {
	t.Helper()
	for range 2 {
		if v, u, ok := types.Const(l, e); len(v) != 0 || u != (api.Ty{}) || ok {
			t.Fatalf("Const is %v, %+v, %v of %s", v, u, ok, cut(e))
		}
	}
}

// less makes an expression of less a number.
func less(n int64) api.Expr {
	return operated(api.OpNeg, number(n))
}

// enums are those of bench.
func enums(t *testing.T) []api.Enum {
	return program(t, bench).Enums
}

// numbers are some from 0 on, the least and the greatest among them.
func numbers() []int64 {
	return []int64{0, 1, 2, 9, 255, 256, math.MaxInt32, math.MaxInt32 + 1, math.MaxInt64 - 1, math.MaxInt64}
}

// item is a constant that is no array, with its type and value.
type item struct {
	e api.Expr
	t api.Ty
	n int64
}

// items are such of all kinds, where the enums are l.
func items(l []api.Enum) []item {
	all := []item{
		{truth(0), api.Ty{Kind: api.KBool}, 0},
		{truth(1), api.Ty{Kind: api.KBool}, 1},
	}
	for _, n := range numbers() {
		all = append(all, item{number(n), api.Ty{Kind: api.KInt}, n}, item{less(n), api.Ty{Kind: api.KInt}, -n})
	}
	for i, e := range l {
		for k, s := range e.Ctors {
			all = append(all, item{ctor(s), api.Ty{Kind: api.KEnum, Enum: i}, int64(k)})
		}
	}
	return all
}

// P16.1, P16.4: numbers, less numbers, truths and constructors, where there are no enums, some, and as many as may be.
func TestConstItems(t *testing.T) {
	l := enums(t)
	for n := range 5 {
		for _, x := range items(l[:n]) {
			constant(t, l[:n], x.e, x.t, x.n)
		}
		for _, x := range items(l[n:]) {
			constant(t, l[n:], x.e, x.t, x.n)
		}
	}
	constant(t, nil, number(0), api.Ty{Kind: 1}, 0)
	constant(t, nil, number(math.MaxInt64), api.Ty{Kind: 1}, math.MaxInt64)
	constant(t, nil, less(0), api.Ty{Kind: 1}, 0)
	constant(t, nil, less(7), api.Ty{Kind: 1}, -7)
	constant(t, nil, less(math.MaxInt64), api.Ty{Kind: 1}, -math.MaxInt64)
	constant(t, nil, truth(1), api.Ty{Kind: 2}, 1)
	constant(t, nil, truth(0), api.Ty{Kind: 2}, 0)
	constant(t, l, ctor("Up"), api.Ty{Kind: 3}, 0)
	constant(t, l, ctor("Left"), api.Ty{Kind: 3}, 2)
	constant(t, l, ctor("Zero"), api.Ty{Kind: 3, Enum: 3}, 0)
	constant(t, l, ctor("Last"), api.Ty{Kind: 3, Enum: 3}, 1)
	constant(t, l, ctor("Grey"), api.Ty{Kind: 3, Enum: 1}, 5)
	constant(t, l, ctor("Only"), api.Ty{Kind: 3, Enum: 2}, 0)
}

// P16.1: a constructor that is none of l is no constant, alone, and at each place of a list.
func TestConstNoCtor(t *testing.T) {
	l := enums(t)
	for i, e := range l {
		rest := slices.Concat(l[:i], l[i+1:])
		for _, s := range e.Ctors {
			for _, none := range [][]api.Enum{nil, {}, rest, l[:i], l[i+1:]} {
				noConstant(t, none, ctor(s))
				noConstant(t, none, over(api.ExArr, ctor(s)))
			}
		}
	}
	for _, s := range []string{"Nope", "True", "False", "U", "Upp", "UP", "Way", "A"} {
		noConstant(t, l, ctor(s))
		for n := 1; n <= 8; n++ {
			for at := range n {
				for _, other := range []string{"Up", "Last", s} {
					cells := slices.Repeat([]api.Expr{ctor(other)}, n)
					cells[at] = ctor(s)
					noConstant(t, l, over(api.ExArr, cells...))
				}
			}
		}
	}
}

// P16.1, P16.4: lists of one cell, of as many as may be, and of all numbers of them between, of each type.
func TestConstLists(t *testing.T) {
	l := enums(t)
	all := items(l)
	for at := range all {
		for n := 1; n <= 8; n++ {
			var cells []api.Expr
			var v []int64
			// Those of its type, from itself on and round.
			for k := 0; len(cells) < n; k++ {
				if x := all[(at+k)%len(all)]; x.t == all[at].t {
					cells, v = append(cells, x.e), append(v, x.n)
				}
			}
			want := all[at].t
			want.Len = n
			constant(t, l, over(api.ExArr, cells...), want, v...)
		}
	}
	constant(t, nil, over(api.ExArr, number(5)), api.Ty{Kind: 1, Len: 1}, 5)
	constant(t, nil, over(api.ExArr, truth(1), truth(0)), api.Ty{Kind: 2, Len: 2}, 1, 0)
	constant(t, l, over(api.ExArr, ctor("Last"), ctor("Zero"), ctor("Last")), api.Ty{Kind: 3, Enum: 3, Len: 3}, 1, 0, 1)
	constant(t, l, over(api.ExArr, number(1), less(2), number(3), less(4), number(5), less(6), number(7), less(8)), api.Ty{Kind: 1, Len: 8}, 1, -2, 3, -4, 5, -6, 7, -8)
}

// P16.1: a list of two types has none, at whichever place the other one stands.
func TestConstListsOfTwoTypes(t *testing.T) {
	l := enums(t)
	tried := 0
	for _, x := range items(l) {
		for _, y := range items(l) {
			for n := 2; n <= 8; n++ {
				for at := range n {
					cells := slices.Repeat([]api.Expr{x.e}, n)
					cells[at] = y.e
					e := over(api.ExArr, cells...)
					if x.t != y.t {
						noConstant(t, l, e)
						tried++
						continue
					}
					v := slices.Repeat([]int64{x.n}, n)
					v[at] = y.n
					want := x.t
					want.Len = n
					constant(t, l, e, want, v...)
				}
			}
		}
	}
	if tried < 10000 {
		t.Errorf("%d are tried", tried)
	}
}

// P16.1: lists in a list, and lists of too few and of too many cells, are no constants.
func TestConstNoLists(t *testing.T) {
	l := enums(t)
	noConstant(t, l, over(api.ExArr))
	for _, x := range items(l) {
		noConstant(t, l, over(api.ExArr, slices.Repeat([]api.Expr{x.e}, 9)...))
		noConstant(t, l, over(api.ExArr, slices.Repeat([]api.Expr{x.e}, 1000)...))
		for n := 1; n <= 8; n++ {
			list := over(api.ExArr, slices.Repeat([]api.Expr{x.e}, n)...)
			for at := range n {
				cells := slices.Repeat([]api.Expr{x.e}, n)
				cells[at] = list
				noConstant(t, l, over(api.ExArr, cells...))
			}
			noConstant(t, l, over(api.ExArr, slices.Repeat([]api.Expr{list}, n)...))
			noConstant(t, l, operated(api.OpNeg, list))
		}
	}
}

// P16.1: what is no constant, right or not, tells nothing, alone and as a cell.
func TestConstOfOthers(t *testing.T) {
	l := enums(t)
	wrong := []api.Expr{
		{}, {Kind: -1}, {Kind: 18}, {Kind: math.MaxInt}, {Kind: math.MinInt},
		number(-1), number(math.MinInt64), truth(2), truth(-1), truth(math.MaxInt64), ctor(""), ctor("up"), ctor("true"), ctor("a/b"), ctor("UpUpUpUpUpUpU"),
		less(-1), less(math.MinInt64), operated(api.OpNeg, less(1)), operated(api.OpNeg, truth(1)), operated(api.OpNeg, ctor("Up")), operated(api.OpNeg, variable("a")),
		operated(api.OpNot, truth(1)), operated(api.OpNot, number(1)), operated(api.OpSub, number(1)), operated(0, number(1)), operated(api.OpAdd, number(1), number(2)),
		{Kind: api.ExUn, Op: api.OpNeg}, {Kind: api.ExUn, Op: api.OpNeg, Subs: []api.Expr{number(1), number(1)}}, {Kind: api.ExUn, Op: api.OpNeg, N: 1, Subs: []api.Expr{number(1)}},
		{Kind: api.ExNum, N: 1, Name: "a"}, {Kind: api.ExNum, N: 1, Op: 1}, {Kind: api.ExNum, N: 1, Arms: []string{"Up"}}, {Kind: api.ExNum, N: 1, Subs: []api.Expr{number(1)}},
		{Kind: api.ExBool, N: 1, Name: "true"}, {Kind: api.ExBool, Op: 1}, {Kind: api.ExBool, Arms: []string{"true"}}, {Kind: api.ExBool, Subs: []api.Expr{truth(1)}},
		{Kind: api.ExCtor, Name: "Up", N: 1}, {Kind: api.ExCtor, Name: "Up", Op: 1}, {Kind: api.ExCtor, Name: "Up", Arms: []string{"Up"}}, {Kind: api.ExCtor, Name: "Up", Subs: []api.Expr{ctor("Up")}},
		variable("a"), variable("Up"), named(api.ExOld, "a/b", nil),
	}
	for _, s := range strings.Split("a | not true | 1 + 2 | 1 - 2 | if true then 1 else 2 | 1 fby 2 | 1 -> 2 | pre 1 | 1 when a | merge a (true -> 1) (false -> 2) | f() | f(1) every true | [1, 2][0] | ([1, 2] with [0] = 3) | - - 1 | -(1 + 2) | 'a'", "|") {
		wrong = append(wrong, expression(t, s))
	}
	for _, e := range wrong {
		noConstant(t, l, e)
		noConstant(t, nil, e)
		for n := 1; n <= 8; n++ {
			for at := range n {
				for _, other := range []api.Expr{number(1), truth(1), ctor("Up"), e} {
					cells := slices.Repeat([]api.Expr{other}, n)
					cells[at] = e
					noConstant(t, l, over(api.ExArr, cells...))
				}
			}
		}
	}
	for _, x := range items(l) {
		list := over(api.ExArr, x.e)
		for _, spoil := range []func(*api.Expr){
			func(e *api.Expr) { e.N = 1 }, func(e *api.Expr) { e.Name = "a" }, func(e *api.Expr) { e.Op = 1 }, func(e *api.Expr) { e.Arms = []string{"Up"} },
		} {
			e := list
			spoil(&e)
			noConstant(t, l, e)
		}
	}
}

// P16.1, Rules: what is very deep, or very wide, is no constant either, and is soon told.
func TestConstFar(t *testing.T) {
	deep, wide := number(1), over(api.ExArr)
	for range 60000 {
		deep = over(api.ExArr, deep)
		wide.Subs = append(wide.Subs, number(1))
	}
	for _, e := range []api.Expr{deep, wide, over(api.ExArr, deep), over(api.ExArr, wide), operated(api.OpNeg, deep), operated(api.OpNeg, wide), operated(api.OpNeg, slices.Repeat([]api.Expr{number(1)}, 2)...)} {
		noConstant(t, nil, e)
	}
}

// P16.1, Rules: lists of enums that may not be are asked as well.
func TestConstOfManyEnums(t *testing.T) {
	var l []api.Enum
	for i := range 40 {
		e := enum("")
		for k := range i {
			e.Ctors = append(e.Ctors, fmt.Sprintf("C%d_%d", i, k))
		}
		l = append(l, e)
	}
	for i := range l {
		for k, s := range l[i].Ctors {
			constant(t, l, ctor(s), api.Ty{Kind: api.KEnum, Enum: i}, int64(k))
			constant(t, l, over(api.ExArr, ctor(s), ctor(l[i].Ctors[0])), api.Ty{Kind: api.KEnum, Enum: i, Len: 2}, int64(k), 0)
		}
	}
	noConstant(t, l, ctor("C0_0"))
	noConstant(t, make([]api.Enum, 3), ctor("Up"))
}

// P16.1, P16.4: what chance makes of cells, some of them wrong, is told by what its cells are.
func TestConstByChance(t *testing.T) {
	l := enums(t)
	r := rand.New(rand.NewPCG(16, 1))
	all := items(l)
	none := []api.Expr{ctor("Nope"), number(-1), truth(2), variable("a"), operated(api.OpNot, truth(1)), over(api.ExArr, number(1)), {}}
	count := map[bool]int{}
	for range 200000 {
		first := all[r.IntN(len(all))]
		e, v, so := over(api.ExArr, first.e), []int64{first.n}, true
		for range r.IntN(9) {
			x := all[r.IntN(len(all))]
			for x.t != first.t && r.IntN(12) > 0 {
				x = all[r.IntN(len(all))]
			}
			if r.IntN(20) == 0 {
				x = item{e: none[r.IntN(len(none))]}
			}
			e.Subs, v, so = append(e.Subs, x.e), append(v, x.n), so && x.t == first.t
		}
		so = so && len(v) <= api.MaxArray
		count[so]++
		if !so {
			noConstant(t, l, e)
			continue
		}
		want := first.t
		want.Len = len(v)
		constant(t, l, e, want, v...)
	}
	if count[true] < 20000 || count[false] < 20000 {
		t.Errorf("%v", count)
	}
}
