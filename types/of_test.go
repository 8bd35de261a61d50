package types_test

import (
	"math"
	"slices"
	"strconv"
	"strings"
	"testing"

	"noria/api"
	"noria/expr"
	"noria/prog"
	"noria/types"
)

// P16.2: the chapter's example.
func TestExample(t *testing.T) {
	p := program(t, "node f(a: int) returns (b: int) let b = a + 1; tel")
	if u, ok := types.Of(p, 0, p.Nodes[0].Eqs[0].E); u != (api.Ty{Kind: api.KInt}) || !ok {
		t.Fatal(u, ok)
	}
	is(t, p, 0, expression(t, "a + 1"), "int")
	is(t, p, 0, expression(t, "a and 1"), "")
	is(t, p, 0, expression(t, "a and true"), "")
	check(t, "the example", p, fine())
}

// The kinds and errors are those that the chapters name.
func TestGiven(t *testing.T) {
	if api.KInt != 1 || api.KBool != 2 || api.KEnum != 3 || api.MaxArray != 8 || api.MaxNodes != 6 || api.MaxPorts != 6 {
		t.Fatal("kinds")
	}
	if api.OK != 0 || api.ErrType != 7 || (api.Fault{}) != fault(0, 0, 0) {
		t.Fatal("errors")
	}
}

// P16.2: variables have the types that they are declared with, in each node its own; what is no variable has none.
func TestOfVariables(t *testing.T) {
	p := program(t, bench)
	names := map[string]int{}
	for _, n := range p.Nodes {
		for _, d := range own(n) {
			names[d.Name]++
		}
	}
	for i, n := range p.Nodes {
		for s := range names {
			is(t, p, i, variable(s), declared(p, i, s))
		}
		for _, s := range []string{"nope", "i0", "ii", "main", "way", "hue", "a_", "b12", n.Name} {
			is(t, p, i, variable(s), "")
		}
		// It counts neither whether a variable has a clock, nor what it is there on.
		for _, d := range own(n) {
			u, ok := types.Of(p, i, variable(d.Name))
			if u != d.Ty || !ok {
				t.Fatalf("%s is %+v, %v, not %+v", d.Name, u, ok, d.Ty)
			}
		}
	}
	for s, want := range map[string]string{"i": "int", "b": "bool", "w": "way", "z": "last", "i1": "int[1]", "i8": "int[8]", "b1": "bool[1]", "b8": "bool[8]", "w1": "way[1]", "w8": "way[8]", "z1": "last[1]", "z8": "last[8]", "j": "int", "c": "bool", "v": "way", "x": "last", "h": "hue", "o": "one", "h1": "hue[1]", "h8": "hue[8]", "i2": "int[2]", "b2": "bool[2]", "w3": "way[3]", "o1": "one[1]", "only": "", "y": ""} {
		is(t, p, main, variable(s), want)
	}
	for s, want := range map[string]string{"i": "bool", "b": "way", "w": "int[3]", "z": "hue", "j": "last[2]", "only": "one", "y": "bool[4]", "c": "", "i1": ""} {
		is(t, p, 5, variable(s), want)
	}
	for s, want := range map[string]string{"y": "int", "a": "", "i": ""} {
		is(t, p, 0, variable(s), want)
	}
}

// P16.2: a place of no node has no types, of whatever is asked; the first place and the last one have.
func TestOfPlaces(t *testing.T) {
	for _, s := range []string{
		"node f(a: int) returns (y: int) let tel", bench,
		"node f(a: int) returns (y: int) let tel node g(a: int) returns (y: int) let tel",
	} {
		p := program(t, s)
		n := len(p.Nodes)
		for _, at := range []int{-1, n, n + 1, -n, math.MinInt, math.MaxInt, math.MinInt32, 1 << 40} {
			for _, text := range []string{"1", "true", "y", "a", "-1", "1 + 1", "[1]", "0 fby 1", "if true then 1 else 2", "none()", "a + 1", "'y'"} {
				is(t, p, at, expression(t, text), "")
			}
		}
		for at := range n {
			is(t, p, at, number(1), "int")
			is(t, p, at, truth(1), "bool")
			is(t, p, at, expression(t, "[1 + 1] -> [2]"), "int[1]")
		}
	}
	for _, at := range []int{-1, 0, 1} {
		is(t, api.Program{}, at, number(1), "")
	}
}

// P16.2: numbers, truths and constructors are as Const tells of them, where there are no enums, some, and as many as may be.
func TestOfItems(t *testing.T) {
	for n := range 5 {
		p := program(t, "node f(a: int) returns (y: int) let tel node g() returns (y: bool) let tel")
		p.Enums = enums(t)[:n]
		for _, x := range items(p.Enums) {
			for at := range 2 {
				u, ok := types.Of(p, at, x.e)
				if u != x.t || !ok {
					t.Fatalf("%s is %+v, %v, not %+v", cut(x.e), u, ok, x.t)
				}
			}
		}
		for _, e := range enums(t)[n:] {
			for _, s := range e.Ctors {
				is(t, p, 0, ctor(s), "")
			}
		}
		is(t, p, 1, ctor("Nope"), "")
	}
}

// names are those of main's variables.
func names(p api.Program) []string {
	var l []string
	for _, d := range own(p.Nodes[main]) {
		l = append(l, d.Name)
	}
	return l
}

// atoms are main's variables, one constant of each kind, and what has no type.
func atoms(p api.Program) []api.Expr {
	l := []api.Expr{number(1), less(1), truth(0), ctor("Last"), ctor("Up"), ctor("Nope"), variable("nope"), over(api.ExArr, number(1), number(2)), named(api.ExOld, "i", nil)}
	for _, s := range names(p) {
		l = append(l, variable(s))
	}
	return l
}

// P16.2: each operator, of all that there is.
func TestOfOperators(t *testing.T) {
	p := program(t, bench)
	l := atoms(p)
	well := map[int]int{}
	for _, x := range l {
		for op := api.OpNeg; op <= api.OpNot; op++ {
			e := operated(op, x)
			want := reckoned(p, main, e)
			is(t, p, main, e, want)
			if want != "" {
				well[op]++
			}
		}
		for _, y := range l {
			for op := api.OpAdd; op <= api.OpGe; op++ {
				e := operated(op, x, y)
				want := reckoned(p, main, e)
				is(t, p, main, e, want)
				if want != "" {
					well[op]++
				}
			}
		}
	}
	for op, n := range map[int]int{
		// i, j, 1 and -1; b, c and false; all alike.
		api.OpNeg: 4, api.OpNot: 3, api.OpAdd: 16, api.OpSub: 16, api.OpMul: 16, api.OpDiv: 16, api.OpMod: 16, api.OpAnd: 9, api.OpOr: 9, api.OpXor: 9,
		api.OpLt: 16, api.OpLe: 16, api.OpGt: 16, api.OpGe: 16, api.OpEq: 16 + 9 + 9 + 9 + 1 + 1, api.OpNe: 16 + 9 + 9 + 9 + 1 + 1,
	} {
		if well[op] != n {
			t.Errorf("%d is let be %d times, not %d", op, well[op], n)
		}
	}
}

// P16.2: an if, an arrow, a pre, an fby, of all that there is.
func TestOfChoices(t *testing.T) {
	p := program(t, bench)
	l := atoms(p)
	for _, x := range l {
		is(t, p, main, over(api.ExPre, x), reckoned(p, main, x))
		for _, y := range l {
			same := reckoned(p, main, x)
			if same != reckoned(p, main, y) {
				same = ""
			}
			is(t, p, main, over(api.ExArrow, x, y), same)
			for _, z := range l {
				e := over(api.ExIf, z, x, y)
				want := same
				if reckoned(p, main, z) != "bool" {
					want = ""
				}
				is(t, p, main, e, want)
			}
			if expr.Const(x) {
				is(t, p, main, over(api.ExFby, x, y), same)
			}
		}
	}
	for _, x := range items(p.Enums) {
		for n := range 9 {
			first := x.e
			if n > 0 {
				first = over(api.ExArr, slices.Repeat([]api.Expr{x.e}, n)...)
			}
			for _, y := range l {
				e := over(api.ExFby, first, y)
				is(t, p, main, e, reckoned(p, main, e))
			}
			is(t, p, main, over(api.ExFby, first, first), reckoned(p, main, first))
		}
	}
}

// P16.2: a when over each variable, on each arm, of what has a type and of what has none.
func TestOfWhens(t *testing.T) {
	p := program(t, bench)
	well := 0
	for _, s := range append(names(p), "nope") {
		for _, arm := range append(arms(p.Enums), "Nope") {
			for _, x := range atoms(p) {
				e := named(api.ExWhen, s, []string{arm}, x)
				want := reckoned(p, main, e)
				is(t, p, main, e, want)
				if want != "" {
					well++
				}
			}
		}
	}
	// 30 of all atoms have a type; truths, ways, lasts, hues and ones have so many variables and arms.
	if n := 30 * (2*2 + 2*3 + 2*2 + 1*6 + 1*1); well != n {
		t.Errorf("%d are let be, not %d", well, n)
	}
}

// orders are all orders of l.
func orders(l []string) [][]string {
	if len(l) == 0 {
		return [][]string{nil}
	}
	var all [][]string
	for i := range l {
		for _, rest := range orders(slices.Concat(l[:i], l[i+1:])) {
			all = append(all, append([]string{l[i]}, rest...))
		}
	}
	return all
}

// wholes are the arms of truths, and those of each enum.
func wholes(l []api.Enum) [][]string {
	all := [][]string{{"true", "false"}}
	for _, e := range l {
		all = append(all, e.Ctors)
	}
	return all
}

// P16.2: a merge over each variable, by all arms of truths or of one enum in whichever order, by all but one, by one alone, and with one of another enum, or none, in the place of each, or beside them.
func TestOfMerges(t *testing.T) {
	p := program(t, bench)
	var rows [][]string
	for _, l := range wholes(p.Enums) {
		rows = append(rows, orders(l)...)
		for i := range l {
			if len(l) > 1 {
				rows = append(rows, slices.Concat(l[:i], l[i+1:]), l[i:i+1])
			}
			for _, arm := range append(arms(p.Enums), "Nope") {
				if !slices.Contains(l, arm) {
					rows = append(rows, slices.Concat(l[:i], []string{arm}, l[i+1:]), slices.Concat(l[:i], []string{arm}, l[i:]), append(slices.Clip(l), arm))
				}
			}
		}
	}
	well := map[string]int{}
	for _, row := range rows {
		if len(row) > api.MaxCtors {
			continue
		}
		for _, s := range append(names(p), "nope") {
			e := named(api.ExMerge, s, row, slices.Repeat([]api.Expr{number(1)}, len(row))...)
			want := reckoned(p, main, e)
			is(t, p, main, e, want)
			if want != "" {
				well[s]++
			}
		}
	}
	// Of each variable of theirs its one row.
	for _, s := range []string{"b", "c", "w", "v", "z", "x", "h", "o"} {
		if well[s] == 0 || declared(p, main, s) != "one" && well[s] != 1 {
			t.Errorf("over %s %d are let be", s, well[s])
		}
	}
	if len(well) != 8 {
		t.Errorf("%v", well)
	}
}

// P16.2: a merge by all arms has the type of its parts, if they are the same, whichever of them is another one.
func TestOfMergesOfParts(t *testing.T) {
	p := program(t, bench)
	l := atoms(p)
	for s, row := range map[string][]string{"b": {"true", "false"}, "v": p.Enums[0].Ctors, "h": p.Enums[1].Ctors, "o": p.Enums[2].Ctors, "z": p.Enums[3].Ctors} {
		for _, x := range l {
			is(t, p, main, named(api.ExMerge, s, row, slices.Repeat([]api.Expr{x}, len(row))...), reckoned(p, main, x))
			for _, y := range l {
				want := reckoned(p, main, x)
				if want != reckoned(p, main, y) {
					want = ""
				}
				for at := range row {
					e := named(api.ExMerge, s, row, slices.Repeat([]api.Expr{x}, len(row))...)
					if e.Subs[at] = y; len(row) > 1 {
						is(t, p, main, e, want)
					}
				}
			}
		}
	}
}

// P16.2: arrays of one to as many as may be, and with one cell of another type; cells of each type.
func TestOfArrays(t *testing.T) {
	p := program(t, bench)
	l := atoms(p)
	for _, x := range l {
		for n := 1; n <= 8; n++ {
			e := over(api.ExArr, slices.Repeat([]api.Expr{x}, n)...)
			want := reckoned(p, main, x)
			if strings.Contains(want, "[") {
				want = ""
			}
			if want != "" {
				want += "[" + strconv.Itoa(n) + "]"
			}
			is(t, p, main, e, want)
			for at := range n {
				for _, y := range l {
					e := over(api.ExArr, slices.Repeat([]api.Expr{x}, n)...)
					e.Subs[at] = y
					is(t, p, main, e, reckoned(p, main, e))
				}
			}
		}
	}
}

// P16.2: a cell of each at each place, and each put at each place of each.
func TestOfCells(t *testing.T) {
	p := program(t, bench)
	l := atoms(p)
	at, set := 0, 0
	for _, x := range l {
		for _, y := range l {
			e := over(api.ExAt, x, y)
			want := reckoned(p, main, e)
			is(t, p, main, e, want)
			if want != "" {
				at++
			}
			for _, z := range l {
				e := over(api.ExSet, x, y, z)
				want := reckoned(p, main, e)
				is(t, p, main, e, want)
				if want != "" {
					set++
				}
			}
		}
	}
	// Fifteen are arrays: 4 of int, 3 of bool, 3 of way, 2 of last, 2 of hue, 1 of one.
	if at != 15*4 || set != 4*(4*4+3*3+3*3+2*3+2*1+1*1) {
		t.Errorf("%d and %d are let be", at, set)
	}
}

// P16.2: what was kept has no type, nor has what there is one in.
func TestOfOlds(t *testing.T) {
	p := program(t, bench)
	for i, n := range p.Nodes {
		for _, s := range []string{"i", "y", "nope", "a/b", "main/i", "i.1", n.Name} {
			old := named(api.ExOld, s, nil)
			is(t, p, i, old, "")
			for _, e := range []api.Expr{
				operated(api.OpNeg, old), operated(api.OpEq, old, old), operated(api.OpAdd, old, number(1)), over(api.ExPre, old), over(api.ExArr, old), over(api.ExFby, number(1), old),
				over(api.ExArrow, old, old), over(api.ExArrow, number(1), old), over(api.ExIf, truth(1), old, old), over(api.ExIf, old, number(1), number(2)), over(api.ExAt, old, number(1)),
			} {
				is(t, p, i, e, "")
			}
		}
	}
}

// P16.2: a call of each node from each node, by itself also and from ahead, with all kinds of arguments, more and fewer, and what resets it.
func TestOfCalls(t *testing.T) {
	p := program(t, bench)
	args := map[string][]api.Expr{
		"none": nil, "neg": {number(1)}, "pair": {ctor("Left")},
		"six":  {number(1), truth(1), ctor("Down"), ctor("Last"), expression(t, "[1, 2]"), over(api.ExArr, slices.Repeat([]api.Expr{truth(0)}, 8)...)},
		"tail": {truth(1), ctor("Up"), expression(t, "[1, 2, 3]")},
		"main": {number(1), truth(1), ctor("Up"), ctor("Last"), expression(t, "[1]"), over(api.ExArr, slices.Repeat([]api.Expr{less(1)}, 8)...)},
		"nope": nil,
	}
	outs := map[string]string{"none": "int", "neg": "bool", "six": "way[3]"}
	for at := range p.Nodes {
		for s, l := range args {
			want := outs[s]
			holds := func(want string, e api.Expr) {
				t.Helper()
				if expr.Right(e) {
					is(t, p, at, e, want)
				}
			}
			holds(want, call(s, l))
			for _, reset := range []api.Expr{truth(1), truth(0), expression(t, "not true"), expression(t, "1 < 2"), expression(t, "neg(1)"), expression(t, "[true][0]")} {
				holds(want, call(s, l, reset))
			}
			for _, reset := range []api.Expr{number(1), ctor("Up"), ctor("Last"), expression(t, "[true]"), expression(t, "[true, false]"), variable("nope"), ctor("Nope"), named(api.ExOld, "b", nil), expression(t, "none()")} {
				holds("", call(s, l, reset))
			}
			for i := range l {
				holds("", call(s, slices.Concat(l[:i], l[i+1:])))
				holds("", call(s, slices.Concat(l[:i], l[i+1:]), truth(1)))
				for _, x := range []api.Expr{number(7), truth(1), ctor("Up"), ctor("Red"), ctor("Zero"), expression(t, "[1]"), expression(t, "[1, 2]"), expression(t, "[true]"), variable("nope")} {
					other := slices.Clone(l)
					other[i] = x
					so := want
					if reckoned(p, at, x) != reckoned(p, at, l[i]) {
						so = ""
					}
					holds(so, call(s, other))
					holds(so, call(s, other, truth(1)))
					holds("", call(s, slices.Concat(l[:i], []api.Expr{x}, l[i:])))
				}
				for k := range i {
					other := slices.Clone(l)
					other[i], other[k] = other[k], other[i]
					holds("", call(s, other))
				}
			}
			holds("", call(s, append(slices.Clip(l), number(1))))
			holds("", call(s, append(slices.Clip(l), truth(1))))
			holds("", call(s, append(slices.Clip(l), truth(1)), truth(1)))
		}
	}
}

// P16.2: of two nodes of one name the first counts, whichever of them calls.
func TestOfCallsOfTwo(t *testing.T) {
	p := program(t, "node f(a: int) returns (y: int) let tel node g(a: bool) returns (y: bool; z: bool) let tel node h(a: bool) returns (y: int[2]) let tel")
	p.Nodes[1].Name, p.Nodes[2].Name = "f", "f"
	if prog.Check(p) != api.ErrThere {
		t.Fatal("there are no two")
	}
	for at := range 3 {
		is(t, p, at, expression(t, "f(1)"), "int")
		is(t, p, at, expression(t, "f(true)"), "")
		is(t, p, at, expression(t, "g(true)"), "")
	}
	p.Nodes[0], p.Nodes[1] = p.Nodes[1], p.Nodes[0]
	for at := range 3 {
		is(t, p, at, expression(t, "f(1)"), "")
		is(t, p, at, expression(t, "f(true)"), "")
	}
	p.Nodes[0], p.Nodes[2] = p.Nodes[2], p.Nodes[0]
	for at := range 3 {
		is(t, p, at, expression(t, "f(1)"), "")
		is(t, p, at, expression(t, "f(true)"), "int[2]")
	}
}

// P16.2: a node with one output has a type, one with none, or with several, has none.
func TestOfCallsOfOutputs(t *testing.T) {
	p := program(t, bench)
	all := own(p.Nodes[main])
	for i := range all {
		all[i].On, all[i].Ctor = "", ""
	}
	for n := range 7 {
		for from := range len(all) - n {
			p.Nodes[0].Outs = all[from : from+n]
			want := ""
			if n == 1 {
				want = declared(p, main, all[from].Name)
			}
			is(t, p, main, call("none", nil), want)
			is(t, p, main, call("none", nil, truth(1)), want)
			is(t, p, 5, call("none", nil), want)
			is(t, p, main, over(api.ExPre, call("none", nil)), want)
		}
	}
}
