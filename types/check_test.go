package types_test

import (
	"slices"
	"strconv"
	"strings"
	"testing"

	"noria/api"
	"noria/prog"
	"noria/scope"
)

// town is a program in which all types go together, with each kind of expression; its clocks do so only in part, as nobody asks that here.
const town = `
enum way { Up, Down, Left };
enum hue { Red, Green };
node f(a: int; c: bool) returns (y: int; z: bool)
var h: int when c; k: int when not c;
let
	h = a when c;
	y = merge c (true -> h) (false -> k);
	k = 1 when not c;
	z = not c;
tel
node g(m: way; e: hue; t: int[2]) returns (o: int)
var l: int when Up(m); n: bool when Green(e); s: bool; q: int when s; r: hue when false(n); v: way when Red(r);
let
	l, n = f(t[0], true);
	q, s = f(l + 1, n) every s;
	o = (if s then q else 2) -> pre o;
	r = Red fby e;
	v = m when Red(r);
tel
node pair() returns (t: int[2]; m: way; e: hue)
let
	t = [1, 2] fby t;
	m = if e = Red then Up else Left;
	e = Green;
tel
node main(a: int; c: bool; m: way; e: hue; t: int[2]) returns (y: int; b: bool)
var d: int[2]; u: way; x: hue when Up(u); w: int when Red(x); k: bool;
let
	y, k = f(a, c);
	b = k xor g(m, e, t) > 3;
	d, u, x = pair() every b;
	w = merge u (Up -> pre a) (Down -> -a -> 1) (Left -> g(u, Green, ([a, 2] with [y] = d[1])) every c);
tel
`

// P16.3: nothing is wrong with these.
func TestMayBe(t *testing.T) {
	for _, s := range []string{
		town, full(),
		"node f() returns (y: int) let y = 1; tel",
		"node f() returns (y: int) let y = y; tel",
		"node f(a: bool) returns (y: int) var h: int when a; let h = 1; y = 1; tel",
		"node f() returns (y: int) var h: bool when h; let h = h; y = 1; tel",
		"enum way { Up }; node f(a: way) returns (y: way) let y = merge a (Up -> Up when Up(a)); tel",
		"enum y { Y }; node y() returns (y: y) let y = Y; tel node z(y: y) returns (z: y) let z = y(); tel",
		"node f() returns (y: int; z: int[8]) let z = z; y = z[y]; tel",
	} {
		p := program(t, s)
		for n := len(p.Nodes); n > 0; n-- {
			p.Nodes = p.Nodes[:n]
			check(t, s, p, fine())
		}
	}
}

// full is the text of a program with as much of everything as may be.
func full() string {
	s := "enum way { Up, Down, Left, Right, In, Out }; enum hue { Red, Green, Blue, White, Black, Grey }; " +
		"enum abcdefghijkl { A, B, C, D, E, ABCDEFGHIJKL }; enum x9 { X, Y, Z, X1, Y1, Z1 }; "
	ports := func(first string) string {
		return first + "0: int; " + first + "1: bool; " + first + "2: way; " + first + "3: x9; " + first + "4: int[8]; " + first + "5: abcdefghijkl[1]"
	}
	for k := range 6 {
		s += "node n" + strconv.Itoa(k) + "(" + ports("a") + ") returns (" + ports("y") + ") var "
		for i := range 12 {
			clock := []string{"a1", "not y1", "Out(a2)", "Z1(y3)", "X(a3)", "Up(y2)"}[(i+k)%6]
			s += "v" + strconv.Itoa(i) + ": " + []string{"int", "bool", "way", "x9", "int[8]", "abcdefghijkl[1]"}[i%6] + " when " + clock + "; "
		}
		s += "let "
		for i, l := range []string{"y0, y1, y2, y3, y4, y5", "v0, v1, v2, v3, v4, v5", "v6, v7, v8, v9, v10, v11"} {
			if k > 0 {
				s += l + " = n" + strconv.Itoa(k-1) + "(a0, a1, Out, Z1, [1, 2, 3, 4, 5, 6, 7, 8], [ABCDEFGHIJKL])" + []string{"; ", " every a1; ", " every (a0 = 1); "}[i]
				continue
			}
			for j, name := range strings.Split(l, ", ") {
				s += name + " = a" + strconv.Itoa(j) + "; "
			}
		}
		s += "tel "
	}
	return s
}

// lost are ways to make a program that scope.Check refuses of one that it lets be, which has a node f(a: int; c: bool) at the place 0, with an equation of y, and something wrong with its types there.
func lost() map[string]struct {
	want  api.Fault
	spoil func(p *api.Program)
} {
	type way = struct {
		want  api.Fault
		spoil func(p *api.Program)
	}
	one := number(1)
	last := func(p *api.Program) *api.Node { return &p.Nodes[len(p.Nodes)-1] }
	eq := func(e api.Expr) func(*api.Program) {
		return func(p *api.Program) { last(p).Eqs[0].E = e }
	}
	bad := func(err api.Errno) api.Fault { return fault(0, -1, err) }
	return map[string]way{
		"no enums":                  {bad(api.ErrMany), func(p *api.Program) { p.Enums = make([]api.Enum, 5) }},
		"an enum's name":            {bad(api.ErrArg), func(p *api.Program) { p.Enums = append(p.Enums, enum("A", "A")) }},
		"a constructor twice":       {bad(api.ErrThere), func(p *api.Program) { p.Enums = append(p.Enums, enum("a", "A", "A")) }},
		"no nodes":                  {bad(api.ErrNone), func(p *api.Program) { p.Nodes = nil }},
		"too many nodes":            {bad(api.ErrMany), func(p *api.Program) { p.Nodes = append(p.Nodes, make([]api.Node, 6)...) }},
		"too many inputs":           {bad(api.ErrMany), func(p *api.Program) { last(p).Ins = make([]api.Decl, 7) }},
		"no outputs":                {bad(api.ErrArg), func(p *api.Program) { last(p).Outs = nil }},
		"a type":                    {bad(api.ErrArg), func(p *api.Program) { last(p).Vars = append(last(p).Vars, api.Decl{Name: "typed"}) }},
		"an enum's type":            {bad(api.ErrArg), func(p *api.Program) { last(p).Ins[0].Ty = api.Ty{Kind: api.KEnum, Enum: 4} }},
		"an input with On":          {bad(api.ErrArg), func(p *api.Program) { last(p).Ins[0].On, last(p).Ins[0].Ctor = "c", "Up" }},
		"no names":                  {bad(api.ErrArg), func(p *api.Program) { last(p).Eqs[0].Names = nil }},
		"nothing":                   {bad(api.ErrArg), eq(api.Expr{})},
		"a number below 0":          {bad(api.ErrArg), eq(number(-1))},
		"an fby behind no constant": {bad(api.ErrArg), eq(over(api.ExFby, variable("a"), one))},
		"an arm twice":              {bad(api.ErrArg), eq(named(api.ExMerge, "c", []string{"true", "true"}, one, one))},
		"two names and no call":     {bad(api.ErrArg), func(p *api.Program) { last(p).Eqs[0].Names = append(last(p).Eqs[0].Names, "z") }},
		"two nodes":                 {bad(api.ErrThere), func(p *api.Program) { p.Nodes = append(p.Nodes, p.Nodes[0]) }},
		"two variables":             {bad(api.ErrThere), func(p *api.Program) { last(p).Vars = append(last(p).Vars, last(p).Ins[0]) }},
		"a clock's variable": {fault(1, -1, api.ErrNone), func(p *api.Program) {
			last(p).Vars = append(last(p).Vars, api.Decl{Name: "v", Ty: api.Ty{Kind: api.KInt}, On: "nope", Ctor: "true"})
		}},
		"a clock's arm": {fault(1, -1, api.ErrNone), func(p *api.Program) {
			last(p).Vars = append(last(p).Vars, api.Decl{Name: "v", Ty: api.Ty{Kind: api.KInt}, On: "c", Ctor: "Nope"})
		}},
		"no variable's equation": {fault(1, 0, api.ErrNone), func(p *api.Program) { last(p).Eqs[0].Names = []string{"nope"} }},
		"an input's equation":    {fault(1, 0, api.ErrThere), func(p *api.Program) { last(p).Eqs[0].Names = []string{"a"} }},
		"an equation twice":      {fault(1, 1, api.ErrThere), func(p *api.Program) { last(p).Eqs = append(last(p).Eqs, last(p).Eqs[0]) }},
		"no variable":            {fault(1, 0, api.ErrNone), eq(variable("nope"))},
		"no constructor":         {fault(1, 0, api.ErrNone), eq(ctor("Nope"))},
		"no arm":                 {fault(1, 0, api.ErrNone), eq(named(api.ExWhen, "c", []string{"Nope"}, one))},
		"no merge's variable":    {fault(1, 0, api.ErrNone), eq(named(api.ExMerge, "nope", []string{"true", "false"}, one, one))},
		"no node":                {fault(1, 0, api.ErrNone), eq(call("nope", nil))},
		"the node itself":        {fault(1, 0, api.ErrNone), eq(call("g", []api.Expr{one, truth(1)}))},
		"what was kept":          {fault(1, 0, api.ErrNone), eq(named(api.ExOld, "y", nil))},
		"no equation":            {fault(1, -1, api.ErrNone), func(p *api.Program) { last(p).Eqs = nil }},
	}
}

// P16.3: what scope.Check refuses is told as it is, whatever is wrong with the types ahead of it, and where nothing is.
func TestRefused(t *testing.T) {
	const rest = " tel node g(a: int; c: bool) returns (y: int) let y = a; tel"
	for what, l := range lost() {
		for _, first := range []string{
			"node f(a: int; c: bool) returns (y: int) let y = a;", "node f(a: int; c: bool) returns (y: int) let y = c;", "node f(a: int; c: bool) returns (y: int) let y = a + c;",
			"node f(a: int; c: bool) returns (y: int) var h: int when a; let h = 1; y = 1;", "node f(a: int; c: bool) returns (y: int[2]) var h: int when Up(c); let h = c; y = 1;",
		} {
			p := program(t, "enum way { Up };"+first+rest)
			l.spoil(&p)
			if f := scope.Check(p); f != l.want {
				t.Fatalf("%s: scope.Check is %+v, not %+v", what, f, l.want)
			}
			answers(t, what, p, l.want)
		}
	}
	check(t, "nothing", api.Program{}, fault(0, -1, api.ErrNone))
	// What is wrong with a name stands behind what is wrong with a type, in one node, and in two.
	tells(t, "node f(a: int) returns (y: bool; z: int) let y = a; z = nope; tel", fault(0, 1, api.ErrNone))
	tells(t, "node f(a: int) returns (y: bool; z: int) let y = a; tel", fault(0, -1, api.ErrNone))
	tells(t, "node f(a: int) returns (y: int) var h: int when a; let h = 1; y = nope; tel", fault(0, 1, api.ErrNone))
	tells(t, "node f(a: int) returns (y: bool) let y = a; tel node g() returns (y: int) let y = 1; y = 2; tel", fault(1, 1, api.ErrThere))
}

// clocked is the text of nodes with as many others around as may be; the variable h of the one at that place is there when that is.
func clocked(place, nodes int, clock string) string {
	s := ways
	for i := range nodes {
		s += "node n" + strconv.Itoa(i) + "(i: int; b: bool; w: way; z: last; b8: bool[8]; o1: one[1]) returns (y: bool; q: hue; w1: way[1]) var "
		if i == place {
			s += "c: bool when b; v: way when not y; h: int when " + clock + "; x: last when Up(v); "
		} else {
			s += "c: bool when b; v: way when Up(w); h: int; x: last when Last(z); "
		}
		s += "let c = b; v = w; h = i; x = z; y = b; q = Red; w1 = [w]; tel "
	}
	return s
}

// P16.3: a variable's On that has not the type that its Ctor has, of all variables, inputs, outputs and others, and of all arms, in the first node, in the last one, and between.
func TestClocks(t *testing.T) {
	p := program(t, clocked(0, 1, "b"))
	well := 0
	for _, d := range own(p.Nodes[0]) {
		for _, arm := range arms(p.Enums) {
			s := arm + "(" + d.Name + ")"
			so := armed(p, arm) == declared(p, 0, d.Name)
			for place := range 6 {
				want := mistyped(place, -1)
				if so {
					want = fine()
					well++
				}
				answers(t, s, program(t, clocked(place, 6, s)), want)
				if place == 0 {
					tells(t, clocked(0, 1, s), want)
				}
			}
		}
	}
	// b, y, c; w, v; z, x; q.
	if well != 6*(3*2+2*3+2*2+1*6) {
		t.Errorf("%d are let be", well)
	}
	for s, want := range map[string]api.Fault{
		"b": fine(), "not b": fine(), "Up(w)": fine(), "Left(v)": fine(), "Last(z)": fine(), "Grey(q)": fine(), "true(y)": fine(), "false(c)": fine(), "Zero(x)": fine(),
		"i": mistyped(2, -1), "not i": mistyped(2, -1), "h": mistyped(2, -1), "w": mistyped(2, -1), "b8": mistyped(2, -1), "Up(b)": mistyped(2, -1), "Up(z)": mistyped(2, -1), "Red(w)": mistyped(2, -1),
		"Up(w1)": mistyped(2, -1), "Only(o1)": mistyped(2, -1), "true(b8)": mistyped(2, -1), "Up(h)": mistyped(2, -1), "Last(v)": mistyped(2, -1), "Zero(i)": mistyped(2, -1),
	} {
		tells(t, clocked(2, 4, s), want)
	}
	// The first variable and the last one are asked as well.
	tells(t, "node f(a: int; c: bool) returns (y: int) var h: int when a; k: int when c; l: int when c; let h = 1; k = 1; l = 1; y = 1; tel", mistyped(0, -1))
	tells(t, "node f(a: int; c: bool) returns (y: int) var h: int when c; k: int when c; l: int when a; let h = 1; k = 1; l = 1; y = 1; tel", mistyped(0, -1))
	tells(t, "node f(a: int; c: bool) returns (y: int) var h: int when c; k: int when c; l: int when c; let h = 1; k = 1; l = 1; y = 1; tel", fine())
}

// P16.3: an equation of one variable, an output or another one, of each type: what has its type is let be, what has another one, or none, is not.
func TestOneName(t *testing.T) {
	p := program(t, bench)
	typeTexts := []string{"int", "bool", "way", "last", "int[1]", "int[8]", "bool[1]", "bool[8]", "way[1]", "way[8]", "last[1]", "last[8]", "hue", "one", "int[2]", "way[3]", "one[1]"}
	head := strings.ReplaceAll(bench, "let tel", "let y = y; tel")
	head = head[:strings.Index(head, "node pair")] + "node main(i: int; b: bool; w: way; z: last; i1: int[1]; i8: int[8]) returns (y: $; o: int) var b8: bool[8]; w1: way[1]; x: #; let b8 = b8; w1 = w1; x = ?; y = !; o = i; tel"
	count := map[string]int{}
	for _, s := range typeTexts {
		for _, e := range strings.Split("i|b|w|z|i1|i8|b8|w1|1|-1|true|Up|Last|Red|Only|[1]|[1, 2]|[Up, Down, Left]|[Only]|none()|neg(1)|neg(i) every b|neg(b)|none(i)|six(i, b, w, z, [1, 2], b8)|six(i, b, w, z, i1, b8)|six(i, b, w, z, i1, b8) every i|i + 1|i + b|i = 1|b = i|pre w|0 fby i|true fby i|b8[0]|(b8 with [i] = b)|(b8 with [b] = i)", "|") {
			u := reckoned(p, main, expression(t, e))
			for _, out := range []bool{true, false} {
				ys, xs, ye, xe, at := s, "int", e, "i", 3
				if !out {
					ys, xs, ye, xe, at = xs, ys, xe, ye, 2
				}
				text := strings.NewReplacer("$", ys, "#", xs, "!", ye, "?", xe).Replace(head)
				want := mistyped(3, at)
				if s == u {
					want = fine()
					count[e]++
				}
				tells(t, text, want)
			}
		}
	}
	if len(count) != 29 {
		t.Errorf("%v are let be", count)
	}
}

// P16.3: equations of one name and of several, of calls of nodes of one output and of several.
func TestSeveralNames(t *testing.T) {
	const s = "enum way { Up, Down }; node one(a: int) returns (y: int) let y = a; tel node two(a: int; c: bool) returns (y: int; z: bool) let y = a; z = c; tel " +
		"node alike() returns (y: int; z: int; x: int) let y = 1; z = 2; x = 3; tel node whole(a: way) returns (y: way; z: int[2]; x: bool; v: way[1]; u: int; w: bool[8]) let y = a; z = z; x = x; v = [y]; u = 1; w = w; tel " +
		"node main(i: int; b: bool; w: way) returns (y: int; z: bool; x: int; v: way; k: int[2]; l: bool) var q: way[1]; r: bool[8]; j: int; h: int[1]; let $ tel"
	all := []string{"y", "z", "x", "v", "k", "l", "q", "r", "j", "h"}
	well, none := `
y = one(1); y = one(i) every b; j = one(one(y)) every z
y, z = two(i, b); y, z = two(1, true) every b; x, l = two(i, z); j, z = two(y, b) every (i = 1); y, l = two(one(i), not b); y, z = two(i, b) every true
y, x, j = alike(); j, y, x = alike() every b
v, k, z, q, y, r = whole(w); v, k, l, q, x, r = whole(Up) every z; v, k, z, q, j, r = whole(v) every l`, `
y = two(i, b); z = two(i, b); y = two(i, b)[0]; y = one(two(i, b)); y = one(b); z = one(i); y = one(i, i); y = one() every b; y = one(i) every i; y = alike(); v = whole(w); y = two(i, b) every b; y = two(1, true)
y, x = one(i); x, y = one(i) every b; y, z = one(i); y, z, x = one(i)
y, z, x = two(i, b); y, z, l = two(i, b); y, x = two(i, b); z, y = two(i, b); z, l = two(i, b); h, z = two(i, b); y, r = two(i, b); k, l = two(i, b); v, z = two(i, b)
y, x = alike(); y, x, z = alike(); z, y, x = alike(); y, z, x = alike(); h, y, x = alike(); y, x, h = alike(); y, x, j, z = alike(); y, x, j, h = alike()
y, z = two(i); y, z = two(i, b, b); y, z = two(b, i); y, z = two(b, b); y, z = two(i, i); y, z = two(); y, z = two(w, b); y, z = two(i, w); y, z = two(h, b); y, z = two(i, r); y, z = two(i, b, i); y, z = two(two(i, b), b)
y, z = two(i, b) every i; y, z = two(i, b) every w; y, z = two(i, b) every r; y, z = two(i, b) every 1; y, z = two(i, b) every two(i, b); y, z = two(i) every b; y, z = two(b) every b; y, z = two(b, i) every b; y, z = two(i, b + i) every b; y, z = two(i, b) every (i + b)
y, x, j = alike(i); y, x, j = alike(b); y, x, j = alike() every i; y, x, j = alike() every r
v, k, z, q, y = whole(w); k, v, z, q, y, r = whole(w); v, k, z, q, r, y = whole(w); v, h, z, q, y, r = whole(w); q, k, z, v, y, r = whole(w); v, k, z, q, y, r = whole(i); v, k, z, q, y, r = whole(q); v, k, z, q, y, r = whole(w, w); v, k, z, q, y, r = whole(); v, k, z, q, y, r = whole(w) every w`
	split := func(l string) []string {
		return strings.FieldsFunc(l, func(r rune) bool { return r == ';' || r == '\n' })
	}
	for k, l := range []string{well, none} {
		for _, q := range split(l) {
			names, _, _ := strings.Cut(q, " = ")
			rest, at := "", 0
			for _, name := range all {
				if !slices.Contains(strings.Split(strings.TrimSpace(names), ", "), name) {
					rest += name + " = " + name + "; "
				}
			}
			for _, behind := range []bool{true, false} {
				text := q + "; " + rest
				if at = 0; behind {
					text, at = rest+q+";", strings.Count(rest, ";")
				}
				tells(t, strings.Replace(s, "$", text, 1), []api.Fault{fine(), mistyped(4, at)}[k])
			}
		}
	}
}

// P16.3: an equation of several names is a call's, or prog.Check refuses it.
func TestSeveralNamesOfNoCall(t *testing.T) {
	for _, e := range []string{"a", "1", "[1, 2]", "pre f(a)", "f(a) + 1", "f(a) when c", "0 fby f(a)", "if c then f(a) else f(a)", "f(a)[0]", "[f(a)]"} {
		p := program(t, "node f(a: int) returns (y: int; z: int) let y = a; z = a; tel node g(a: int; c: bool) returns (y: int; z: int) let y, z = f(a); tel")
		p.Nodes[1].Eqs[0].E = expression(t, e)
		if prog.Check(p) != api.ErrArg {
			t.Fatalf("%s is let be", e)
		}
		check(t, e, p, fault(0, -1, api.ErrArg))
	}
}
