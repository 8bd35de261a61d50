package clock_test

import (
	"fmt"
	"slices"
	"strings"
	"testing"

	"noria/api"
	"noria/types"
)

// P17.3: nothing is wrong with these.
func TestMayBe(t *testing.T) {
	for _, s := range []string{
		yard, whole(),
		"node f() returns (y: int) let y = 1; tel",
		"node f() returns (y: int) let y = y; tel",
		"node f(c: bool) returns (y: int) var h: int when c; let y = 1; h = 1; tel",
		"node f(c: bool) returns (y: int) var h: int when c; let y = merge c (true -> h) (false -> 2); h = y when c; tel",
		"node f(c: bool) returns (y: bool) var h: bool when k; k: bool when y; let y = c; h = k when k; k = y when y; tel",
		"enum way { Up }; node f(a: way) returns (y: way) let y = merge a (Up -> a when Up(a)); tel",
		"node f(c: bool) returns (y: int; z: bool) let y = 1; z = c; tel node g(c: bool) returns (y: int) var h: int when c; k: bool when c; let y = 1; h, k = f(c when c) every (not c) when c; tel",
	} {
		p := program(t, s)
		for n := len(p.Nodes); n > 0; n-- {
			p.Nodes = p.Nodes[:n]
			check(t, s, p, fine())
		}
	}
}

// whole is the text of a program with as much of everything as may be: its nodes' other variables are there each where the one ahead is, or where the one behind is.
func whole() string {
	var s strings.Builder
	s.WriteString("enum way { Up, Down, Left, Right, In, Out }; ")
	for node := range 6 {
		fmt.Fprintf(&s, "node n%d(a0: way; a1: way; a2: way; a3: way; a4: way; a5: way) returns (y0: way; y1: way; y2: way; y3: way; y4: way; y5: way) var ", node)
		arm := func(i int) string { return []string{"Up", "Out", "Left"}[(i+node)%3] }
		name := func(i int) string {
			if i < 0 {
				return "y5"
			}
			return fmt.Sprint("v", i)
		}
		for i := range 12 {
			if node%2 == 1 {
				i = 11 - i
			}
			fmt.Fprintf(&s, "v%d: way when %s(%s); ", i, arm(i), name(i-1))
		}
		s.WriteString("let ")
		for i := range 12 {
			fmt.Fprintf(&s, "v%d = %s when %s(%s); ", i, name(i-1), arm(i), name(i-1))
		}
		if node > 0 {
			fmt.Fprintf(&s, "y0, y1, y2, y3, y4, y5 = n%d(a0, y1, Up, 0 fby a3, pre a4, a5) every (a0 = a1); ", node-1)
			s.WriteString("tel ")
			continue
		}
		for i := range 6 {
			fmt.Fprintf(&s, "y%d = merge y%d (Up -> Up) (Down -> a0 when Down(y%d)) (Left -> Left) (Right -> Up) (In -> In) (Out -> y%d when Out(y%d)); ", i, i, i, i, i)
		}
		s.WriteString("tel ")
	}
	return strings.ReplaceAll(s.String(), "0 fby", "Up fby")
}

// lost are ways to make a program that types.Check refuses of one that it lets be, whose last node is g(a: int; c: bool) at the place 1 with an equation of y.
func lost() map[string]struct {
	want  api.Fault
	spoil func(p *api.Program)
} {
	type way = struct {
		want  api.Fault
		spoil func(p *api.Program)
	}
	last := func(p *api.Program) *api.Node { return &p.Nodes[len(p.Nodes)-1] }
	bad := func(err api.Errno) api.Fault { return fault(0, -1, err) }
	eq := func(err api.Errno, e api.Expr) way {
		return way{fault(1, 0, err), func(p *api.Program) { last(p).Eqs[0].E = e }}
	}
	variables := func(at api.Fault, l ...api.Decl) way {
		return way{at, func(p *api.Program) {
			for _, d := range l {
				d.Ty.Kind = api.KBool
				last(p).Vars = append(last(p).Vars, d)
				last(p).Eqs = append(last(p).Eqs, api.Eq{Names: []string{d.Name}, E: api.Expr{Kind: api.ExBool}})
			}
		}}
	}
	one := number(1)
	l := map[string]way{
		"no enums":                              {bad(api.ErrMany), func(p *api.Program) { p.Enums = make([]api.Enum, 5) }},
		"an enum's name":                        {bad(api.ErrArg), func(p *api.Program) { p.Enums = append(p.Enums, api.Enum{Name: "A", Ctors: []string{"A"}}) }},
		"no nodes":                              {bad(api.ErrNone), func(p *api.Program) { p.Nodes = nil }},
		"too many nodes":                        {bad(api.ErrMany), func(p *api.Program) { p.Nodes = append(p.Nodes, make([]api.Node, 6)...) }},
		"no outputs":                            {bad(api.ErrArg), func(p *api.Program) { last(p).Outs = nil }},
		"an input with On":                      {bad(api.ErrArg), func(p *api.Program) { last(p).Ins[0].On, last(p).Ins[0].Ctor = "c", "true" }},
		"no names":                              {bad(api.ErrArg), func(p *api.Program) { last(p).Eqs[0].Names = nil }},
		"two nodes":                             {bad(api.ErrThere), func(p *api.Program) { p.Nodes = append(p.Nodes, p.Nodes[0]) }},
		"two variables":                         {bad(api.ErrThere), func(p *api.Program) { last(p).Vars = append(last(p).Vars, last(p).Ins[0]) }},
		"no equation":                           {fault(1, -1, api.ErrNone), func(p *api.Program) { last(p).Eqs = nil }},
		"two equations":                         {fault(1, 1, api.ErrThere), func(p *api.Program) { last(p).Eqs = append(last(p).Eqs, last(p).Eqs[0]) }},
		"a row to nothing":                      variables(fault(1, -1, api.ErrNone), api.Decl{Name: "v", On: "nope", Ctor: "true"}),
		"a row to no arm":                       variables(fault(1, -1, api.ErrNone), api.Decl{Name: "v", On: "c", Ctor: "Nope"}),
		"a row on an int":                       variables(fault(1, -1, api.ErrType), api.Decl{Name: "v", On: "a", Ctor: "true"}),
		"a wrong arm":                           variables(fault(1, -1, api.ErrType), api.Decl{Name: "v", On: "c", Ctor: "Up"}),
		"a wrong arm, on a row that comes back": variables(fault(1, -1, api.ErrType), api.Decl{Name: "v", On: "v", Ctor: "Up"}),
		"a fby behind no constant":              eq(api.ErrArg, over(api.ExFby, variable("a"), one)),
		"no variable":                           eq(api.ErrNone, variable("nope")),
		"no variable of a when":                 eq(api.ErrNone, when("nope", "true", one)),
		"no arm":                                eq(api.ErrNone, when("c", "Nope", one)),
		"no variable of a merge":                eq(api.ErrNone, named(api.ExMerge, "nope", []string{"true", "false"}, one, one)),
		"what was kept":                         eq(api.ErrNone, named(api.ExOld, "y", nil)),
		"the node itself":                       eq(api.ErrNone, call("g", []api.Expr{one, variable("c")})),
		"a truth":                               eq(api.ErrType, variable("c")),
		"a truth on another clock":              eq(api.ErrType, when("c", "true", variable("c"))),
		"a when over an int":                    eq(api.ErrType, when("a", "true", one)),
		"a when on a wrong arm":                 eq(api.ErrType, when("c", "Up", one)),
		"a merge of too few":                    eq(api.ErrType, named(api.ExMerge, "c", []string{"true"}, one)),
		"a merge in another order":              eq(api.ErrType, named(api.ExMerge, "c", []string{"false", "true"}, one, one)),
		"too few arguments":                     eq(api.ErrType, call("f", []api.Expr{one})),
	}
	for name, x := range l {
		if x.want.Err == api.ErrArg {
			x.want.Node, x.want.Eq = 0, -1
		}
		l[name] = x
	}
	return l
}

// P17.3: what types.Check refuses is told as it is, whatever is wrong with the clocks ahead of it, and where nothing is.
func TestRefused(t *testing.T) {
	heads := map[string]api.Fault{
		"node f(a: int; c: bool) returns (y: int) let y = a; tel":                                                          fine(),
		"node f(a: int; c: bool) returns (y: int) var h: bool when h; let h = true; y = a; tel":                            untimely(0, -1),
		"node f(a: int; c: bool) returns (y: int) var h: bool when k; k: bool when not h; let h = h; k = true; y = a; tel": untimely(0, -1),
		"node f(a: int; c: bool) returns (y: int) let y = a when c; tel":                                                   untimely(0, 0),
		"node f(a: int; c: bool) returns (y: int) var h: int when c; let h = a; y = h; tel":                                untimely(0, 0),
		"node f(a: int; c: bool) returns (y: int) var h: int when c; let h = 1; y = h + a; tel":                            untimely(0, 1),
	}
	bodies := map[string]api.Fault{
		"let y = a; tel":                                   fine(),
		"let y = a when c; tel":                            untimely(1, 0),
		"var h: bool when h; let y = 1; h = true; tel":     untimely(1, -1),
		"var h: int when not c; let y = h; h = a; tel":     untimely(1, 0),
		"var h: int when not c; let y = a; h = y; tel":     untimely(1, 1),
		"var h: bool when h; let y = 1 when c; h = c; tel": untimely(1, -1),
	}
	for head, ahead := range heads {
		for body, behind := range bodies {
			text := "enum way { Up };" + head + " node g(a: int; c: bool) returns (y: int) " + body
			want := ahead
			if want == fine() {
				want = behind
			}
			tells(t, text, want)
			for what, l := range lost() {
				p := program(t, text)
				l.spoil(&p)
				if what == "two equations" {
					l.want.Eq = len(p.Nodes[1].Eqs) - 1
				}
				if f := types.Check(p); f != l.want {
					t.Fatalf("%s: types.Check is %+v, not %+v", what, f, l.want)
				}
				answers(t, what, p, l.want)
			}
		}
	}
	check(t, "nothing", api.Program{}, fault(0, -1, api.ErrNone))
}

// P17.3: a variable without a Row: all rows among four variables of which each is there always, or where an input or one of them is, in a node ahead of which and behind which all is well.
func TestNoRow(t *testing.T) {
	ons := []string{"", "b", "h", "k", "l", "m"}
	names := ons[2:]
	count := map[api.Fault]int{}
	const well = "(b: bool) returns (y: bool) var h: bool when b; let y = b; h = true; tel "
	for n := range 6 * 6 * 6 * 6 {
		var s strings.Builder
		s.WriteString("node f" + well + "node g(b: bool) returns (y: bool) var ")
		to := n
		for i, name := range names {
			fmt.Fprintf(&s, "%s: bool", name)
			if on := ons[to%6]; on != "" {
				fmt.Fprintf(&s, " when %s%s", []string{"", "not "}[(n+i)%2], on)
			}
			s.WriteString("; ")
			to /= 6
		}
		s.WriteString("let y = b; h = true; k = true; l = true; m = true; tel node i" + well)
		p := program(t, s.String())
		want := fine()
		for _, name := range names {
			if rowed(p, 1, name) == never {
				want = untimely(1, -1)
			}
		}
		count[want]++
		answers(t, s.String(), p, want)
	}
	// Rows that end are trees with b, or nothing, as their root: 2 (4 + 2) ^ 3 of them.
	if count[fine()] != 2*6*6*6 || len(count) != 2 {
		t.Errorf("%v are told", count)
	}
	// A row that comes back among as many as may be, from each to each.
	for at := range 12 {
		for to := at; to < 12; to++ {
			p := chain(12, at%2 == 0, "true", "false")
			for i := range p.Nodes[0].Vars {
				if p.Nodes[0].Vars[i].Name == fmt.Sprint("v", at) {
					p.Nodes[0].Vars[i].On = fmt.Sprint("v", to)
				}
				p.Nodes[0].Eqs = append(p.Nodes[0].Eqs, api.Eq{Names: []string{fmt.Sprint("v", i)}, E: api.Expr{Kind: api.ExBool}})
			}
			p.Nodes[0].Eqs = append(p.Nodes[0].Eqs, api.Eq{Names: []string{"y"}, E: variable("b")})
			answers(t, "a row", p, untimely(0, -1))
		}
	}
}

// P17.3: an equation of one variable on each clock, of each expression of the table that has its type.
func TestOneName(t *testing.T) {
	well, not := 0, 0
	for _, l := range table() {
		for _, s := range l {
			e := expression(t, s)
			p := program(t, yard)
			u, ok := types.Of(p, main, e)
			if !ok {
				continue
			}
			n := &p.Nodes[main]
			for i, q := range n.Eqs {
				if len(q.Names) > 1 {
					continue
				}
				d := own(*n)[slices.IndexFunc(own(*n), func(d api.Decl) bool { return d.Name == q.Names[0] })]
				if d.Ty != u {
					continue
				}
				n.Eqs[i].E = e
				want := untimely(main, i)
				if on := rowed(p, main, d.Name); joined(reckoned(p, main, e), on) == on {
					want = fine()
					well++
				} else {
					not++
				}
				check(t, s+", of "+d.Name, p, want)
				n.Eqs[i] = q
			}
		}
	}
	if well < 200 || not < 500 {
		t.Errorf("%d are let be, %d are not", well, not)
	}
}

// P17.3: an equation of three variables, on whichever clocks, of a call whose argument and whose reset fit each, one, or none of these.
func TestSeveralNames(t *testing.T) {
	const head = "node tri(a: int) returns (y: int; z: int; x: int) let y = a; z = a; x = a; tel " +
		"node main(i: int; b: bool; c: bool) returns (y: int; z: int; x: int) var h: int when b; h2: int when b; h3: int when b; k: int when not b; k2: int when not b; o: int when c; let "
	names := []string{"y", "z", "x", "h", "h2", "h3", "k", "k2", "o"}
	on := map[byte]string{'y': "", 'z': "", 'x': "", 'h': "b", 'k': "not b", 'o': "c"}
	calls := map[string]string{
		"tri(1)": ever, "tri(1) every true": ever, "tri(i)": "", "tri(y) every b": "", "tri(1) every c": "", "tri(h2)": "b", "tri(i when b) every (c when b)": "b", "tri(1) every (b when b)": "b", "tri(k)": "not b", "tri(o) every (b when c)": "c",
		"tri(i) every (b when b)": never, "tri(h) every b": never, "tri(h + i)": never, "tri(i when b when c)": never,
	}
	count := map[string]int{}
	for _, a := range names {
		for _, b := range names {
			for _, c := range names {
				if a == b || b == c || a == c {
					continue
				}
				rest, row := "", joined(on[a[0]], on[b[0]], on[c[0]])
				for _, name := range names {
					if name != a && name != b && name != c {
						rest += name + " = 1; "
					}
				}
				for e, fit := range calls {
					s := head + rest + a + ", " + b + ", " + c + " = " + e + "; tel"
					want := untimely(1, 6)
					if row != never && (fit == ever || fit == row) {
						want = fine()
						count[e]++
					}
					answers(t, s, program(t, s), want)
				}
			}
		}
	}
	for e, fit := range calls {
		if want := map[string]int{ever: 12, "": 6, "b": 6}; count[e] != want[fit] {
			t.Errorf("%s is let be %d times", e, count[e])
		}
	}
}

// P17.3: of six variables each in turn is there on another clock than the others.
func TestEachName(t *testing.T) {
	p := program(t, whole())
	p.Nodes = p.Nodes[:2]
	n := &p.Nodes[1]
	at := slices.IndexFunc(n.Eqs, func(q api.Eq) bool { return len(q.Names) == 6 })
	q := n.Eqs[at]
	for i := range 6 {
		for v := range 12 {
			// y0 and v0 change places: y0 is told by what was told of v0.
			names := slices.Clone(q.Names)
			names[i] = fmt.Sprint("v", v)
			eqs := slices.Clone(n.Eqs)
			eqs[at].Names = names
			k := slices.IndexFunc(eqs, func(q api.Eq) bool { return slices.Equal(q.Names, names[i:i+1]) })
			eqs[k] = api.Eq{Names: q.Names[i : i+1], E: named(api.ExCtor, "Up", nil)}
			x := p
			x.Nodes = slices.Clone(p.Nodes)
			x.Nodes[1].Eqs = eqs
			answers(t, "six names", x, untimely(1, at))
			// On a clock that all of them have nothing is wrong.
			eqs[k].Names, eqs[at].Names = names[i:i+1], q.Names
			answers(t, "six names", x, fine())
		}
	}
}
