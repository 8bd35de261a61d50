package prog_test

import (
	"math/rand/v2"
	"reflect"
	"regexp"
	"slices"
	"strconv"
	"testing"

	"noria/api"
	"noria/expr"
	"noria/ident"
	"noria/prog"
	"noria/ty"
)

// check holds what Check tells of p against want: as it is handed in, with empty lists and with none; and that it leaves p as it is.
func check(t *testing.T, what string, p api.Program, want api.Errno) {
	t.Helper()
	as := copied(p)
	for _, q := range []api.Program{p, none(p), empty(p)} {
		if e := prog.Check(q); e != want {
			t.Fatalf("%s: Check is %d, not %d: %s", what, e, want, cut(q))
		}
	}
	if !reflect.DeepEqual(p, as) {
		t.Fatalf("%s: Check has changed %s", what, cut(as))
	}
}

// answers holds what Check tells of p against want.
func answers(t *testing.T, what string, p api.Program, want api.Errno) {
	t.Helper()
	if e := prog.Check(p); e != want {
		t.Fatalf("%s: Check is %d, not %d: %s", what, e, want, cut(p))
	}
}

// spoilt holds what Check tells of p, once it is changed, against want; what is changed is no piece of an equation.
func spoilt(t *testing.T, what string, p api.Program, want api.Errno, change func(*api.Program)) {
	t.Helper()
	p = light(p)
	change(&p)
	answers(t, what, p, want)
}

// bases are programs that may be.
func bases() []api.Program {
	return []api.Program{small(), roomy(), full()}
}

// lists are the lists of variables of a node.
func lists(n *api.Node) []*[]api.Decl {
	return []*[]api.Decl{&n.Ins, &n.Outs, &n.Vars}
}

// atEachDecl tells each variable of p, in which list it stands (0 inputs, 1 outputs, 2 others), and p with another one in its place.
func atEachDecl(p api.Program, do func(list int, d api.Decl, with func(api.Decl) api.Program)) {
	for i := range p.Nodes {
		for j, l := range lists(&p.Nodes[i]) {
			for k, d := range *l {
				do(j, d, func(d api.Decl) api.Program {
					q := light(p)
					(*lists(&q.Nodes[i])[j])[k] = d
					return q
				})
			}
		}
	}
}

// atEachEq tells each equation of p, and p with another one in its place.
func atEachEq(p api.Program, do func(x api.Eq, with func(api.Expr, ...string) api.Program)) {
	for i, n := range p.Nodes {
		for j, x := range n.Eqs {
			do(x, func(e api.Expr, names ...string) api.Program {
				q := light(p)
				q.Nodes[i].Eqs[j] = eq(e, names...)
				return q
			})
		}
	}
}

// The limits and errors are those that the chapter names.
func TestGiven(t *testing.T) {
	if api.MaxNodes != 6 || api.MaxPorts != 6 || api.MaxVars != 12 {
		t.Fatal("limits")
	}
	if api.OK != 0 || api.ErrArg != 1 || api.ErrMany != 4 || api.ErrNone != 5 || api.ErrThere != 6 {
		t.Fatal("errors")
	}
}

// P12.1: programs of a little, of something and of as much as may be are right, and so is the chapter's example.
func TestCheckThatMayBe(t *testing.T) {
	for _, p := range bases() {
		check(t, "base", p, api.OK)
	}
	check(t, "example", example(), api.OK)
	most := full()
	for nodes := 1; nodes <= 6; nodes++ {
		for ports := 0; ports <= 6; ports++ {
			for vars := 0; vars <= 12; vars++ {
				spoilt(t, "part of full", most, api.OK, func(p *api.Program) {
					p.Nodes = p.Nodes[:nodes]
					n := &p.Nodes[(ports+vars)%nodes]
					n.Ins, n.Outs, n.Vars, n.Eqs = n.Ins[:ports], n.Outs[:max(ports, 1)], n.Vars[:vars], n.Eqs[:ports+vars]
				})
			}
		}
	}
	for n := range 5 {
		p := small()
		p.Enums = enums()[:n]
		check(t, "enums", p, api.OK)
		p.Nodes[0].Outs = append(p.Nodes[0].Outs, api.Decl{Name: "z", Ty: of(api.KEnum, n, 0)})
		check(t, "the enum behind the last one", p, api.ErrArg)
		if n > 0 {
			p.Nodes[0].Outs[1].Ty.Enum = n - 1
			check(t, "the last enum", p, api.OK)
		}
	}
}

// P12.1: right names, types and clocks, wherever they stand, are right.
func TestCheckThatMayStand(t *testing.T) {
	p := full()
	for i := range p.Nodes {
		for _, s := range []string{"a", "z", "aZ_9", "abcdefghijkl", "way", "nodes", "int1", "up", "not_", "a0", "v11"} {
			spoilt(t, "node "+s, p, api.OK, func(q *api.Program) { q.Nodes[i].Name = s })
		}
	}
	atEachDecl(p, func(list int, d api.Decl, with func(api.Decl) api.Program) {
		for _, s := range []string{"a", "z", "aZ_9", "abcdefghijkl", "way", "n0", "f", "bools", "up", "v12"} {
			e := d
			e.Name = s
			answers(t, s, with(e), api.OK)
		}
		for _, u := range []api.Ty{of(1, 0, 0), of(1, 0, 1), of(1, 0, 8), of(2, 0, 0), of(2, 0, 8), of(3, 0, 0), of(3, 3, 0), of(3, 3, 8), of(3, 1, 1)} {
			e := d
			e.Ty = u
			answers(t, "a type", with(e), api.OK)
		}
		answers(t, "always", with(always(d.Name)), api.OK)
		for _, arm := range []string{"true", "false", "Up", "True", "A", "ABCDEFGHIJKL", "A_9", "NODE"} {
			// Whether there is such a variable, and such a constructor, is not asked here; nor whether it is the variable itself.
			for _, on := range []string{"c", "abcdefghijkl", d.Name} {
				if list == 2 {
					answers(t, on+" and "+arm, with(when(d.Name, on, arm)), api.OK)
				}
			}
		}
	})
}

// P12.1: right expressions, wherever they stand, are right, and of a call as many names as there may be.
func TestCheckEqsThatMayStand(t *testing.T) {
	atEachEq(full(), func(_ api.Eq, with func(api.Expr, ...string) api.Program) {
		for _, e := range rights() {
			answers(t, "an expression", with(e, "x"), api.OK)
		}
		for n := 1; n < 20; n++ {
			answers(t, "names", with(call("f"), names("x", n)...), api.OK)
		}
		// What an equation's names lead to, and whether they are there twice, is not asked here.
		answers(t, "one name twice", with(call("f"), "q", "q"), api.OK)
		answers(t, "one name very often", with(call("f"), slices.Repeat([]string{"q"}, 1000)...), api.OK)
	})
}

// P12.1: what ty.Enums refuses is refused so, whatever else there is.
func TestCheckEnums(t *testing.T) {
	bad := []struct {
		what string
		l    []api.Enum
		want api.Errno
	}{
		{"five enums", append(enums(), enum("more", "More")), api.ErrMany},
		{"seven constructors", []api.Enum{enum("a", "A", "B", "C", "D", "E", "F", "G")}, api.ErrMany},
		{"an enum named so", []api.Enum{enum("A", "B")}, api.ErrArg},
		{"an enum by a word", []api.Enum{enum("a", "A"), enum("int", "B")}, api.ErrArg},
		{"no constructor", []api.Enum{enum("a")}, api.ErrArg},
		{"a low constructor", []api.Enum{enum("a", "A", "b")}, api.ErrArg},
		{"two of a name", []api.Enum{enum("a", "A"), enum("a", "B")}, api.ErrThere},
		{"two constructors", []api.Enum{enum("a", "A"), enum("b", "A")}, api.ErrThere},
		{"a constructor twice", []api.Enum{enum("a", "A", "A")}, api.ErrThere},
		{"many and wrong", append(enums(), enum("More", "More")), api.ErrMany},
		{"wrong and there", []api.Enum{enum("a", "A"), enum("a", "a")}, api.ErrArg},
	}
	for _, b := range bad {
		p := small()
		p.Enums = b.l
		check(t, b.what, p, b.want)
		p.Nodes = nil
		check(t, b.what+", no node", p, b.want)
		p.Nodes = make([]api.Node, 7)
		check(t, b.what+", many nodes", p, b.want)
		p.Nodes = p.Nodes[:1]
		check(t, b.what+", a wrong node", p, b.want)
		p.Nodes = append(small().Nodes, small().Nodes...)
		check(t, b.what+", a node twice", p, b.want)
		p.Nodes = full().Nodes
		check(t, b.what+", as much as may be", p, b.want)
	}
}

// P12.1: a program without nodes has none.
func TestCheckNone(t *testing.T) {
	check(t, "nothing", api.Program{}, api.ErrNone)
	for n := range 5 {
		check(t, "enums alone", api.Program{Enums: enums()[:n]}, api.ErrNone)
	}
	check(t, "a zero node", api.Program{Nodes: make([]api.Node, 1)}, api.ErrArg)
}

// P12.1: one more than may be of nodes is too many.
func TestCheckManyNodes(t *testing.T) {
	for _, n := range []int{7, 8, 12, 255, 256, 257, 262, 65537} {
		answers(t, "zero nodes", api.Program{Nodes: make([]api.Node, n)}, api.ErrMany)
		p := small()
		p.Nodes = slices.Repeat(p.Nodes, n)
		for i := range p.Nodes {
			p.Nodes[i].Name = "f" + strconv.Itoa(i)
		}
		answers(t, "nodes", p, api.ErrMany)
	}
}

// P12.1: one more than may be of inputs, outputs, other variables and equations, in whichever node, is too many; just so many are not.
func TestCheckMany(t *testing.T) {
	for _, p := range bases() {
		for i := range p.Nodes {
			with := func(what string, want api.Errno, change func(*api.Node)) {
				t.Helper()
				spoilt(t, "node "+strconv.Itoa(i)+": "+what, p, want, func(q *api.Program) { change(&q.Nodes[i]) })
			}
			for _, n := range []int{7, 8, 12, 13, 255, 256, 262, 65542} {
				with("inputs", api.ErrMany, func(m *api.Node) { m.Ins = decls("a", n) })
				with("outputs", api.ErrMany, func(m *api.Node) { m.Outs = decls("y", n) })
				with("others", api.ErrMany, func(m *api.Node) { m.Vars = decls("v", 6+n) })
				with("equations", api.ErrMany, func(m *api.Node) { m.Eqs = slices.Repeat(eqs(1), 12+n) })
				with("zero inputs", api.ErrMany, func(m *api.Node) { m.Ins = make([]api.Decl, n) })
				with("zero outputs", api.ErrMany, func(m *api.Node) { m.Outs = make([]api.Decl, n) })
				with("zero others", api.ErrMany, func(m *api.Node) { m.Vars = make([]api.Decl, 6+n) })
				with("zero equations", api.ErrMany, func(m *api.Node) { m.Eqs = make([]api.Eq, 12+n) })
			}
			with("just so many", api.OK, func(m *api.Node) {
				*m = api.Node{Name: "z", Ins: decls("a", 6), Outs: decls("y", 6), Vars: decls("v", 12), Eqs: slices.Repeat(eqs(1), 18)}
			})
			// As many as may be are not fewer where there are fewer variables.
			with("equations of an output", api.OK, func(m *api.Node) {
				*m = api.Node{Name: "z", Outs: decls("y", 1), Eqs: slices.Repeat(eqs(1), 18)}
			})
		}
	}
}

// P12.1: a name that is not low is no argument, at each place where a name stands.
func TestCheckNames(t *testing.T) {
	for _, p := range bases() {
		for _, s := range noLow() {
			for i := range p.Nodes {
				spoilt(t, "a node", p, api.ErrArg, func(q *api.Program) { q.Nodes[i].Name = s })
			}
			atEachDecl(p, func(_ int, d api.Decl, with func(api.Decl) api.Program) {
				d.Name = s
				answers(t, "a variable", with(d), api.ErrArg)
			})
			atEachEq(p, func(x api.Eq, with func(api.Expr, ...string) api.Program) {
				for k := range x.Names {
					names := slices.Clone(x.Names)
					names[k] = s
					answers(t, "an equation", with(x.E, names...), api.ErrArg)
				}
			})
		}
	}
}

// P12.1: a type that is not right is no argument, wherever the variable stands.
func TestCheckTypes(t *testing.T) {
	for _, p := range bases() {
		atEachDecl(p, func(_ int, d api.Decl, with func(api.Decl) api.Program) {
			for _, u := range append(wrongTypes(), of(api.KEnum, len(p.Enums), 0)) {
				d.Ty = u
				answers(t, "a type", with(d), api.ErrArg)
			}
		})
	}
}

// P12.1: On and Ctor are both empty, or a low name and an arm; nothing else may be, and of an input or output only the first.
func TestCheckOn(t *testing.T) {
	for _, p := range bases() {
		atEachDecl(p, func(list int, d api.Decl, with func(api.Decl) api.Program) {
			on := func(name, arm string, want api.Errno) {
				t.Helper()
				d.On, d.Ctor = name, arm
				answers(t, name+" and "+arm, with(d), want)
			}
			there := api.OK
			if list < 2 {
				there = api.ErrArg
			}
			on("", "", api.OK)
			for _, arm := range []string{"true", "false", "Up", "A"} {
				on("c", arm, there)
				on("", arm, api.ErrArg)
				for _, s := range noLow() {
					on(s, arm, api.ErrArg)
				}
			}
			for _, s := range noArm() {
				on("c", s, api.ErrArg)
				if s != "" {
					on("", s, api.ErrArg)
				}
			}
		})
	}
}

// P12.1: a node without outputs is no argument, whatever else it has.
func TestCheckOutputs(t *testing.T) {
	for _, p := range bases() {
		for i := range p.Nodes {
			spoilt(t, "no output", p, api.ErrArg, func(q *api.Program) { q.Nodes[i].Outs = nil })
			spoilt(t, "inputs alone", p, api.ErrArg, func(q *api.Program) { q.Nodes[i] = api.Node{Name: "z", Ins: decls("a", 2)} })
			spoilt(t, "others alone", p, api.ErrArg, func(q *api.Program) { q.Nodes[i] = api.Node{Name: "z", Vars: decls("a", 2)} })
			spoilt(t, "a name alone", p, api.ErrArg, func(q *api.Program) { q.Nodes[i] = api.Node{Name: "z"} })
			spoilt(t, "an output alone", p, api.OK, func(q *api.Program) { q.Nodes[i] = api.Node{Name: "z", Outs: decls("a", 1)} })
		}
	}
}

// P12.1: an equation has names, and a right expression, which is a call if there are several names.
func TestCheckEqs(t *testing.T) {
	right, wrong := rights(), wrongs()
	for _, p := range []api.Program{roomy(), full()} {
		atEachEq(p, func(_ api.Eq, with func(api.Expr, ...string) api.Program) {
			answers(t, "a zero equation", with(api.Expr{}), api.ErrArg)
			for _, e := range right {
				want := api.ErrArg
				if e.Kind == api.ExCall {
					want = api.OK
				}
				answers(t, "no names", with(e), api.ErrArg)
				answers(t, "one name", with(e, "x"), api.OK)
				answers(t, "two names", with(e, "x", "z"), want)
				answers(t, "two names that are one", with(e, "x", "x"), want)
				answers(t, "more names", with(e, names("x", 13)...), want)
			}
			for _, e := range wrong {
				answers(t, "a wrong expression", with(e, "x"), api.ErrArg)
				answers(t, "a wrong expression of two names", with(e, "x", "z"), api.ErrArg)
				answers(t, "a wrong expression of none", with(e), api.ErrArg)
			}
		})
	}
}

// P12.1: two nodes of one name are one too many, wherever they are.
func TestCheckNodesThere(t *testing.T) {
	p := full()
	for i := range p.Nodes {
		for j := range p.Nodes {
			if i != j {
				spoilt(t, "two nodes", p, api.ErrThere, func(q *api.Program) { q.Nodes[i].Name = q.Nodes[j].Name })
			}
		}
	}
	spoilt(t, "six nodes", p, api.ErrThere, func(q *api.Program) {
		for i := range q.Nodes {
			q.Nodes[i].Name = "f"
		}
	})
	check(t, "one node twice", api.Program{Nodes: append(small().Nodes, small().Nodes...)}, api.ErrThere)
	// Great and small letters tell names apart.
	spoilt(t, "nearly one name", p, api.OK, func(q *api.Program) { q.Nodes[0].Name, q.Nodes[1].Name = "nA", "na" })
}

// P12.1: two variables of one node have not one name, wherever in its lists they stand; those of two nodes may.
func TestCheckVarsThere(t *testing.T) {
	for _, p := range []api.Program{roomy(), full()} {
		var names []string
		for _, l := range lists(&p.Nodes[0]) {
			for _, d := range *l {
				names = append(names, d.Name)
			}
		}
		// All nodes have variables of these names.
		atEachDecl(p, func(_ int, d api.Decl, with func(api.Decl) api.Program) {
			for _, s := range names {
				e := d
				e.Name = s
				if s == d.Name {
					answers(t, s+" as it is", with(e), api.OK)
				} else {
					answers(t, s+" twice", with(e), api.ErrThere)
				}
			}
		})
		spoilt(t, "nearly one name", p, api.OK, func(q *api.Program) {
			q.Nodes[0].Ins[0].Name, q.Nodes[0].Vars[0].Name = "xA", "xa"
		})
		spoilt(t, "nodes' names", p, api.OK, func(q *api.Program) {
			q.Nodes[0].Ins[0].Name, q.Nodes[0].Outs[0].Name = q.Nodes[0].Name, q.Nodes[1].Name
		})
		spoilt(t, "an enum's name", p, api.OK, func(q *api.Program) {
			q.Nodes[0].Ins[0].Name, q.Nodes[1].Name = q.Enums[0].Name, q.Enums[0].Name
		})
	}
}

// fault is something that may be wrong with a program, and how early it is answered.
type fault struct {
	what string
	rank int
	does func(*api.Program, int) // with which node
}

// answered is the error of each rank.
func answered(rank int) api.Errno {
	return []api.Errno{api.ErrMany, api.ErrArg, api.ErrThere, api.ErrNone, api.ErrMany, api.ErrArg, api.ErrThere, api.OK}[rank]
}

// faults are such that none of them takes another one away, or makes one; the nodes of roomy have room for two.
func faults() []fault {
	node := func(what string, rank int, does func(*api.Node)) fault {
		return fault{what, rank, func(p *api.Program, at int) { does(&p.Nodes[at]) }}
	}
	more := func(l []api.Decl, d api.Decl) []api.Decl { return append(slices.Clone(l), d) }
	return []fault{
		{"no fault", 7, func(*api.Program, int) {}},
		{"an enum of too many constructors", 0, func(p *api.Program, _ int) { p.Enums = append(p.Enums, enum("more", names("M", 7)...)) }},
		{"an enum without constructors", 1, func(p *api.Program, _ int) { p.Enums = append(p.Enums, enum("bare")) }},
		{"an enum's name twice", 2, func(p *api.Program, _ int) { p.Enums = append(p.Enums, enum("way", "Other")) }},
		{"too many nodes", 4, func(p *api.Program, _ int) { p.Nodes = append(p.Nodes, full().Nodes[:4]...) }},
		node("too many inputs", 4, func(n *api.Node) { n.Ins = append(slices.Clone(n.Ins), decls("more", 5)...) }),
		node("too many outputs", 4, func(n *api.Node) { n.Outs = append(slices.Clone(n.Outs), decls("out", 5)...) }),
		node("too many others", 4, func(n *api.Node) { n.Vars = append(slices.Clone(n.Vars), decls("other", 10)...) }),
		node("too many equations", 4, func(n *api.Node) { n.Eqs = append(slices.Clone(n.Eqs), eqs(14)...) }),
		node("a node's name", 5, func(n *api.Node) { n.Name = "Wrong" }),
		node("an input's name", 5, func(n *api.Node) { n.Ins = more(n.Ins, always("In")) }),
		node("an output's name", 5, func(n *api.Node) { n.Outs = more(n.Outs, always("let")) }),
		node("another one's name", 5, func(n *api.Node) { n.Vars = more(n.Vars, always("")) }),
		node("an input's type", 5, func(n *api.Node) { n.Ins = more(n.Ins, api.Decl{Name: "ti"}) }),
		node("an output's type", 5, func(n *api.Node) { n.Outs = more(n.Outs, api.Decl{Name: "to", Ty: of(api.KInt, 1, 0)}) }),
		node("another one's type", 5, func(n *api.Node) { n.Vars = more(n.Vars, api.Decl{Name: "tv", Ty: of(api.KEnum, 7, 0)}) }),
		node("an input with On", 5, func(n *api.Node) { n.Ins = more(n.Ins, when("oi", "a0", "true")) }),
		node("an output with On", 5, func(n *api.Node) { n.Outs = more(n.Outs, when("oo", "a0", "true")) }),
		node("On without Ctor", 5, func(n *api.Node) { n.Vars = more(n.Vars, when("ov", "a0", "")) }),
		node("Ctor without On", 5, func(n *api.Node) { n.Vars = more(n.Vars, when("cv", "", "Up")) }),
		node("an equation's name", 5, func(n *api.Node) { n.Eqs = append(slices.Clone(n.Eqs), eq(num(1), "Y")) }),
		node("no names", 5, func(n *api.Node) { n.Eqs = append(slices.Clone(n.Eqs), eq(num(1))) }),
		node("a wrong expression", 5, func(n *api.Node) { n.Eqs = append(slices.Clone(n.Eqs), eq(num(-1), "y0")) }),
		node("two names", 5, func(n *api.Node) { n.Eqs = append(slices.Clone(n.Eqs), eq(num(1), "y0", "y1")) }),
		{"a node's name twice", 6, func(p *api.Program, at int) {
			p.Nodes = append(p.Nodes, api.Node{Name: []string{"f", "g", "h"}[at], Outs: decls("y", 1)})
		}},
		node("two inputs", 6, func(n *api.Node) { n.Ins = more(n.Ins, always("a0")) }),
		node("two outputs", 6, func(n *api.Node) { n.Outs = more(n.Outs, always("y1")) }),
		node("two others", 6, func(n *api.Node) { n.Vars = more(n.Vars, when("v2", "a0", "true")) }),
		node("an input and an output", 6, func(n *api.Node) { n.Outs = more(n.Outs, always("a1")) }),
		node("an input and another one", 6, func(n *api.Node) { n.Vars = more(n.Vars, always("a0")) }),
		node("an output and another one", 6, func(n *api.Node) { n.Vars = more(n.Vars, always("y0")) }),
	}
}

// P12.1: of several that are wrong, in one node or in different ones, the one that the chapter names first is answered.
func TestCheckFirst(t *testing.T) {
	base := roomy()
	for _, a := range faults() {
		for _, b := range faults() {
			for at := range 9 {
				p := light(base)
				a.does(&p, at%3)
				b.does(&p, at/3)
				want := answered(min(a.rank, b.rank))
				if e := prog.Check(p); e != want {
					t.Fatalf("%s in %d, %s in %d: Check is %d, not %d", a.what, at%3, b.what, at/3, e, want)
				}
			}
		}
	}
}

// P12.1: without nodes only the enums may be wrong ahead of that; a node without outputs stands ahead of what is there twice, behind what is too many.
func TestCheckFirstOfNothing(t *testing.T) {
	for _, f := range faults()[:4] {
		p := roomy()
		f.does(&p, 0)
		p.Nodes = nil
		check(t, f.what+", and no node", p, answered(min(f.rank, 3)))
	}
	for _, f := range faults() {
		for i := range 3 {
			for j := range 3 {
				p := roomy()
				f.does(&p, i)
				p.Nodes[j].Outs = nil
				want := answered(min(f.rank, 5))
				if i == j && f.what == "too many outputs" {
					want = api.ErrArg
				}
				check(t, f.what+", and no output", p, want)
			}
		}
	}
}

// low and armed tell names apart in another way than the program does.
var (
	low   = regexp.MustCompile(`\A[a-z][a-zA-Z0-9_]{0,11}\z`)
	armed = regexp.MustCompile(`\A(true|false|[A-Z][a-zA-Z0-9_]{0,11})\z`)
)

// reckoned gathers all that is wrong with p, and tells the first of it.
func reckoned(p api.Program) api.Errno {
	if e := ty.Enums(p.Enums); e != api.OK {
		return e
	}
	wrong := map[api.Errno]int{}
	note := func(is bool, e api.Errno) {
		if is {
			wrong[e]++
		}
	}
	noName := func(s string) bool { return !low.MatchString(s) || ident.Word(s) }
	note(len(p.Nodes) == 0, api.ErrNone)
	note(len(p.Nodes) > 6, api.ErrMany)
	nodes := map[string]int{}
	for _, n := range p.Nodes {
		nodes[n.Name]++
		note(nodes[n.Name] > 1, api.ErrThere)
		note(len(n.Ins) > 6 || len(n.Outs) > 6 || len(n.Vars) > 12 || len(n.Eqs) > 18, api.ErrMany)
		note(noName(n.Name) || len(n.Outs) < 1, api.ErrArg)
		vars := map[string]int{}
		for i, l := range [][]api.Decl{n.Ins, n.Outs, n.Vars} {
			for _, d := range l {
				vars[d.Name]++
				note(vars[d.Name] > 1, api.ErrThere)
				note(noName(d.Name) || !ty.Right(p.Enums, d.Ty), api.ErrArg)
				there := d.On == "" && d.Ctor == ""
				note(!there && (i < 2 || noName(d.On) || !armed.MatchString(d.Ctor)), api.ErrArg)
			}
		}
		for _, q := range n.Eqs {
			note(slices.ContainsFunc(q.Names, noName) || !expr.Right(q.E), api.ErrArg)
			note(len(q.Names) != 1 && (len(q.Names) < 1 || q.E.Kind != api.ExCall), api.ErrArg)
		}
	}
	for _, e := range []api.Errno{api.ErrNone, api.ErrMany, api.ErrArg, api.ErrThere} {
		if wrong[e] > 0 {
			return e
		}
	}
	return api.OK
}

// dice makes programs of parts that chance tells.
type dice struct {
	*rand.Rand
	odd, close     bool // whether some parts are wrong, and whether some names are there twice
	fresh          int  // how many names there are so far
	rights, wrongs []api.Expr
}

// rolled are dice for many programs.
func rolled(seed uint64) *dice {
	return &dice{Rand: rand.New(rand.NewPCG(12, seed)), rights: rights(), wrongs: wrongs()}
}

// rare tells, where some parts are wrong, whether this one is: one of n.
func (r *dice) rare(n int) bool {
	return r.odd && r.IntN(n) == 0
}

// pick tells one of these, seldom a wrong one.
func (r *dice) pick(right, wrong []string) string {
	if r.rare(40) {
		right = wrong
	}
	return right[r.IntN(len(right))]
}

// many tells how many there are, seldom too many.
func (r *dice) many(most int) int {
	if r.rare(40) {
		return most + 1
	}
	return r.IntN(most+1) * r.IntN(2)
}

func (r *dice) name() string {
	r.fresh++
	if r.close && r.IntN(8) == 0 {
		return "a" + strconv.Itoa(r.IntN(8))
	}
	return r.pick([]string{"x" + strconv.Itoa(r.fresh)}, noLow())
}

func (r *dice) decl(on bool) api.Decl {
	d := api.Decl{Name: r.name(), Ty: of(1+r.IntN(2), 0, r.IntN(9))}
	if r.rare(40) {
		d.Ty = of(r.IntN(5), r.IntN(4)-1, r.IntN(11)-1)
	}
	if on && r.IntN(2) == 0 || r.rare(50) {
		d.On, d.Ctor = r.pick([]string{"a", "b"}, noLow()), r.pick([]string{"Up", "true", "false"}, noArm())
	}
	return d
}

func (r *dice) eq() api.Eq {
	q := eq(r.rights[r.IntN(len(r.rights))], r.name())
	if q.E.Kind == api.ExCall {
		q.Names = append(q.Names, r.name())
	}
	if r.rare(40) {
		q.Names = append(q.Names, r.name())[r.IntN(2)*2:]
	}
	if r.rare(60) {
		q.E = r.wrongs[r.IntN(len(r.wrongs))]
	}
	return q
}

func (r *dice) node() api.Node {
	n := api.Node{Name: r.name()}
	for range r.many(6) {
		n.Ins = append(n.Ins, r.decl(false))
	}
	for range r.many(6) {
		n.Outs = append(n.Outs, r.decl(false))
	}
	if len(n.Outs) == 0 && !r.rare(10) {
		n.Outs = append(n.Outs, r.decl(false))
	}
	for range r.many(12) {
		n.Vars = append(n.Vars, r.decl(true))
	}
	for range r.many(18) {
		n.Eqs = append(n.Eqs, r.eq())
	}
	return n
}

// program makes a program; most of them may be.
func (r *dice) program() api.Program {
	r.odd, r.close, r.fresh = r.IntN(4) == 0, r.IntN(2) == 0, 0
	p := api.Program{Enums: enums()[:r.IntN(3)]}
	for range r.many(6) {
		p.Nodes = append(p.Nodes, r.node())
	}
	return p
}

// P12.1: what chance makes is told as what is gathered of it.
func TestCheckByChance(t *testing.T) {
	r := rolled(37)
	count := map[api.Errno]int{}
	for range 10000 {
		p := r.program()
		want := reckoned(p)
		count[want]++
		if e := prog.Check(p); e != want {
			t.Fatalf("Check is %d, not %d: %s", e, want, cut(p))
		}
	}
	for _, e := range []api.Errno{api.OK, api.ErrNone, api.ErrMany, api.ErrArg, api.ErrThere} {
		if count[e] < 200 {
			t.Fatalf("%d programs are answered with %d", count[e], e)
		}
	}
}

// P12.1: what is changed in one field, or in the length of one list, is told as what is gathered of it.
func TestCheckButOne(t *testing.T) {
	count := map[api.Errno]int{}
	for _, p := range append(bases()[:2], example()) {
		for at := range places(p) {
			for _, change := range differences() {
				q := changed(p, at, change)
				want := reckoned(q)
				count[want]++
				if e := prog.Check(q); e != want {
					t.Fatalf("Check is %d, not %d: %s", e, want, cut(q))
				}
			}
		}
	}
	for _, e := range []api.Errno{api.OK, api.ErrNone, api.ErrArg, api.ErrThere} {
		if count[e] == 0 {
			t.Fatalf("no program is answered with %d", e)
		}
	}
}
