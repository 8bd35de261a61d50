package scope_test

import (
	"slices"
	"strconv"
	"strings"
	"testing"

	"noria/api"
	"noria/prog"
)

// P15.2: the chapter's example.
func TestExample(t *testing.T) {
	tells(t, "node f(a: int) returns (b: int) let b = c; tel", fault(0, 0, api.ErrNone))
	tells(t, "node f(a: int) returns (b: int) let b = a; tel", fine())
}

// mayBe are texts of programs in which all names lead somewhere.
func mayBe() []string {
	return []string{
		town, full(),
		"node f() returns (y: int) let y = 1; tel",
		"node f() returns (y: int) let y = y; tel",
		"node f(a: bool) returns (y: int) var h: int when a; let h = 1; y = 1; tel",
		"enum way { Up }; node f(a: way) returns (y: way) let y = merge a (Up -> Up when Up(a)); tel",
		"enum y { Y }; node y() returns (y: y) let y = Y; tel node z(y: y) returns (z: y) let z = y(); tel",
		"node f() returns (y: int; z: int) let z = y; y = z; tel",
	}
}

// P15.2: nothing is wrong with these.
func TestMayBe(t *testing.T) {
	for _, s := range mayBe() {
		tells(t, s, fine())
	}
}

// P15.2: of programs of one node, and of as many as may be, each piece that is left is still all right.
func TestFewerNodes(t *testing.T) {
	for _, s := range mayBe() {
		for n := len(program(t, s).Nodes); n > 0; n-- {
			p := program(t, s)
			p.Nodes = p.Nodes[:n]
			check(t, s, p, fine())
		}
	}
	p := program(t, full())
	p.Nodes = p.Nodes[1:]
	check(t, "full without its first node", p, fault(0, 0, api.ErrNone))
}

// refusal is something for which prog.Check refuses a program.
type refusal struct {
	what  string
	err   api.Errno
	spoil func(p *api.Program, node int)
}

// refusals are such that spoil town, at whichever node.
func refusals() []refusal {
	always := func(name string) api.Decl { return api.Decl{Name: name, Ty: api.Ty{Kind: api.KInt}} }
	when := func(on, arm string) api.Decl {
		d := always("timed")
		d.On, d.Ctor = on, arm
		return d
	}
	one := api.Expr{Kind: api.ExNum, N: 1}
	deep := one
	for range 70000 {
		deep = api.Expr{Kind: api.ExPre, Subs: []api.Expr{deep}}
	}
	all := func(what string, err api.Errno, spoil func(*api.Program)) refusal {
		return refusal{what, err, func(p *api.Program, _ int) { spoil(p) }}
	}
	enums := func(what string, err api.Errno, more ...api.Enum) refusal {
		return all(what, err, func(p *api.Program) { p.Enums = append(p.Enums, more...) })
	}
	node := func(what string, err api.Errno, spoil func(*api.Node)) refusal {
		return refusal{what, err, func(p *api.Program, i int) { spoil(&p.Nodes[i]) }}
	}
	in := func(what string, err api.Errno, d ...api.Decl) refusal {
		return node(what, err, func(n *api.Node) { n.Ins = append(n.Ins, d...) })
	}
	out := func(what string, err api.Errno, d ...api.Decl) refusal {
		return node(what, err, func(n *api.Node) { n.Outs = append(n.Outs, d...) })
	}
	other := func(what string, err api.Errno, d ...api.Decl) refusal {
		return node(what, err, func(n *api.Node) { n.Vars = append(n.Vars, d...) })
	}
	eq := func(what string, e api.Expr, l ...string) refusal {
		return node(what, api.ErrArg, func(n *api.Node) { n.Eqs = slices.Insert(n.Eqs, 1, api.Eq{Names: l, E: e}) })
	}
	return []refusal{
		enums("too many enums", api.ErrMany, enum("a", "A"), enum("b", "B"), enum("c", "C")),
		enums("too many constructors", api.ErrMany, enum("a", names("A", 7)...)),
		enums("an enum's name", api.ErrArg, enum("A", "A")),
		enums("no constructors", api.ErrArg, enum("a")),
		enums("a constructor's name", api.ErrArg, enum("a", "true")),
		enums("an enum's name twice", api.ErrThere, enum("way", "A")),
		enums("a constructor twice", api.ErrThere, enum("a", "A", "A")),
		enums("a constructor of two", api.ErrThere, enum("a", "Up")),
		all("too many nodes", api.ErrMany, func(p *api.Program) { p.Nodes = append(p.Nodes, make([]api.Node, 4)...) }),
		all("very many nodes", api.ErrMany, func(p *api.Program) { p.Nodes = append(p.Nodes, make([]api.Node, 3000)...) }),
		all("no nodes", api.ErrNone, func(p *api.Program) { p.Nodes = nil }),
		all("nothing", api.ErrNone, func(p *api.Program) { *p = api.Program{} }),
		in("too many inputs", api.ErrMany, make([]api.Decl, 7)...),
		out("too many outputs", api.ErrMany, make([]api.Decl, 7)...),
		other("too many others", api.ErrMany, make([]api.Decl, 13)...),
		node("too many equations", api.ErrMany, func(n *api.Node) { n.Eqs = append(n.Eqs, make([]api.Eq, 19)...) }),
		node("a node's name", api.ErrArg, func(n *api.Node) { n.Name = "F" }),
		node("no outputs", api.ErrArg, func(n *api.Node) { n.Outs = nil }),
		node("a node of nothing", api.ErrArg, func(n *api.Node) { *n = api.Node{} }),
		in("an input's name", api.ErrArg, always("A")),
		out("an output's name", api.ErrArg, always("")),
		other("another one's name", api.ErrArg, always("node")),
		in("an input's type", api.ErrArg, api.Decl{Name: "typed"}),
		out("an output's type", api.ErrArg, api.Decl{Name: "typed", Ty: api.Ty{Kind: api.KEnum, Enum: 2}}),
		other("another one's type", api.ErrArg, api.Decl{Name: "typed", Ty: api.Ty{Kind: api.KInt, Len: 9}}),
		in("an input with On", api.ErrArg, when("timed", "true")),
		out("an output with On", api.ErrArg, when("timed", "true")),
		other("On without Ctor", api.ErrArg, when("timed", "")),
		other("Ctor without On", api.ErrArg, when("", "Up")),
		other("On that is no name", api.ErrArg, when("Up", "Up")),
		other("Ctor that is no name", api.ErrArg, when("timed", "up")),
		node("two nodes", api.ErrThere, func(n *api.Node) { n.Name = map[string]string{"f": "g", "g": "main", "main": "f"}[n.Name] }),
		node("two inputs", api.ErrThere, func(n *api.Node) { n.Ins = append(n.Ins, n.Ins[0]) }),
		out("two outputs", api.ErrThere, always("twice"), always("twice")),
		other("two others", api.ErrThere, always("twice"), always("twice")),
		node("an output and another", api.ErrThere, func(n *api.Node) { n.Vars = append(n.Vars, n.Outs[0]) }),
		node("an input and an output", api.ErrThere, func(n *api.Node) { n.Outs = append(n.Outs, n.Ins[0]) }),
		eq("an equation of no names", one),
		eq("an equation's name", one, "Y"),
		eq("an equation of nothing", api.Expr{}, "y"),
		eq("a number below 0", api.Expr{Kind: api.ExNum, N: -1}, "y"),
		eq("a variable's name", api.Expr{Kind: api.ExVar, Name: "Y"}, "y"),
		eq("a constructor's name", api.Expr{Kind: api.ExCtor, Name: "y"}, "y"),
		eq("no path", api.Expr{Kind: api.ExOld, Name: "a//b"}, "y"),
		eq("a call of too many", api.Expr{Kind: api.ExCall, Name: "f", Subs: slices.Repeat([]api.Expr{one}, 7)}, "y"),
		eq("an arm twice", api.Expr{Kind: api.ExMerge, Name: "a", Arms: []string{"Up", "Up"}, Subs: []api.Expr{one, one}}, "y"),
		eq("two names and no call", one, "y", "z"),
		eq("too deep", deep, "y"),
	}
}

// lost are ways to make a name of a node lead nowhere.
func lost() []func(*api.Node) {
	return []func(*api.Node){
		func(*api.Node) {},
		func(n *api.Node) { n.Vars[0].On, n.Vars[0].Ctor = "nope", "true" },
		func(n *api.Node) { n.Vars[0].On, n.Vars[0].Ctor = "y", "Nope" },
		func(n *api.Node) { n.Eqs[0].Names[0] = "nope" },
		func(n *api.Node) { n.Eqs[0].Names[0] = "a" },
		func(n *api.Node) { n.Eqs[0].E = api.Expr{Kind: api.ExCall, Name: "nope"} },
		func(n *api.Node) { n.Eqs = n.Eqs[1:] },
	}
}

// P15.2: what prog.Check refuses is told at 0 and -1, wherever in the program it is, and whatever else is wrong.
func TestRefused(t *testing.T) {
	for i := range 9 {
		for _, lose := range lost() {
			for _, r := range refusals() {
				p := program(t, town)
				lose(&p.Nodes[i/3])
				r.spoil(&p, i%3)
				answers(t, r.what, p, refused(r.err))
				if e := prog.Check(p); e != r.err {
					t.Fatalf("%s: prog.Check is %d, not %d", r.what, e, r.err)
				}
			}
		}
	}
	check(t, "nothing", api.Program{}, refused(api.ErrNone))
	check(t, "a node of nothing", api.Program{Nodes: make([]api.Node, 1)}, refused(api.ErrArg))
}

// others are names that no variable of the node of town has: of nodes, enums, variables of other nodes, and such as are nearly those of this one.
func others(p api.Program, node int) []string {
	l := []string{"nope", "f", "g", "main", "way", "hue", "zz"}
	n := p.Nodes[node]
	for _, m := range p.Nodes {
		for _, d := range slices.Concat(m.Ins, m.Outs, m.Vars) {
			l = append(l, d.Name, d.Name+"x", d.Name+"X", d.Name+"_")
		}
	}
	return slices.DeleteFunc(l, func(s string) bool {
		_, there := prog.Decl(n, s)
		return there
	})
}

// own are the names of all variables of a node.
func own(n api.Node) []string {
	var l []string
	for _, d := range slices.Concat(n.Ins, n.Outs, n.Vars) {
		l = append(l, d.Name)
	}
	return l
}

// P15.2: a clock leads to a variable of the node, whichever it is, the variable itself and one behind it too, and to an arm.
func TestClocks(t *testing.T) {
	for i := range 3 {
		for j := range program(t, town).Nodes[i].Vars {
			p := program(t, town)
			n := &p.Nodes[i]
			clock := func(on, arm string, want api.Fault) {
				t.Helper()
				n.Vars[j].On, n.Vars[j].Ctor = on, arm
				answers(t, n.Vars[j].Name+" when "+arm+" of "+on, p, want)
			}
			nowhere := fault(i, -1, api.ErrNone)
			for _, s := range own(*n) {
				for _, arm := range []string{"true", "false", "Up", "Down", "Left", "Red", "Green"} {
					clock(s, arm, fine())
				}
				for _, arm := range []string{"Nope", "True", "False", "TRUE", "Upp", "U", "Blue", "Way", "A"} {
					clock(s, arm, nowhere)
				}
			}
			for _, s := range others(p, i) {
				clock(s, "true", nowhere)
				clock(s, "Red", nowhere)
				clock(s, "Nope", nowhere)
			}
			clock("", "", fine())
		}
	}
}

// P15.2: no enums, no arms but the truths.
func TestClocksWithoutEnums(t *testing.T) {
	const s = "node f(a: bool) returns (y: int) var h: int when $; let h = 1; y = 2; tel"
	for clock, want := range map[string]api.Fault{
		"a": fine(), "not a": fine(), "true(y)": fine(), "false(h)": fine(),
		"nope": fault(0, -1, api.ErrNone), "Up(a)": fault(0, -1, api.ErrNone), "Up(nope)": fault(0, -1, api.ErrNone), "false(f)": fault(0, -1, api.ErrNone),
	} {
		tells(t, strings.Replace(s, "$", clock, 1), want)
	}
}

// P15.2: each of an equation's Names is a variable of the node, no input, and neither ahead of it in this equation nor in one ahead.
func TestNames(t *testing.T) {
	for i := range 3 {
		p := program(t, town)
		n := &p.Nodes[i]
		others := others(p, i)
		var ahead []string
		for _, d := range n.Ins {
			ahead = append(ahead, d.Name)
		}
		for j := range n.Eqs {
			for k, as := range n.Eqs[j].Names {
				name := func(s string, err api.Errno) {
					t.Helper()
					n.Eqs[j].Names[k] = s
					answers(t, s+" for "+as, p, fault(i, j, err))
				}
				for _, s := range others {
					name(s, api.ErrNone)
				}
				for _, s := range ahead {
					name(s, api.ErrThere)
				}
				n.Eqs[j].Names[k] = as
				ahead = append(ahead, as)
			}
		}
		check(t, "as it was", p, fine())
	}
}

// P15.2: a name too many is told at its own place, also if a later one is not there then.
func TestNamesTooMany(t *testing.T) {
	for i := range 3 {
		for j, q := range program(t, town).Nodes[i].Eqs {
			for _, s := range q.Names {
				p := program(t, town)
				n := &p.Nodes[i]
				size := len(n.Eqs)
				n.Eqs = append(n.Eqs, api.Eq{Names: []string{s}, E: api.Expr{Kind: api.ExNum}})
				check(t, s+" at the end too", p, fault(i, size, api.ErrThere))
				n.Eqs = slices.Insert(n.Eqs[:size:size], 0, api.Eq{Names: []string{s}, E: api.Expr{Kind: api.ExNum}})
				check(t, s+" in front too", p, fault(i, j+1, api.ErrThere))
			}
		}
	}
}

// P15.2: each of as many names as there may be in one equation, that of a call, is asked.
func TestNamesOfOneCall(t *testing.T) {
	for k := range 18 {
		for s, err := range map[string]api.Errno{"nope": api.ErrNone, "a0": api.ErrThere, "a5": api.ErrThere} {
			p := program(t, full())
			p.Nodes[3].Eqs[0].Names[k] = s
			check(t, s, p, fault(3, 0, err))
		}
		for j := range 18 {
			p := program(t, full())
			p.Nodes[5].Eqs[0].Names[k] = p.Nodes[5].Eqs[0].Names[j]
			if j == k {
				check(t, "as it was", p, fine())
			} else {
				check(t, "one twice", p, fault(5, 0, api.ErrThere))
			}
		}
	}
}

// P15.2: an output, or another variable, that no equation defines, is missed behind all equations, whichever it is; an input is not.
func TestNotDefined(t *testing.T) {
	for i := range 3 {
		missed := fault(i, -1, api.ErrNone)
		p := program(t, town)
		eqs := p.Nodes[i].Eqs
		for j, q := range eqs {
			p.Nodes[i].Eqs = slices.Concat(eqs[:j], eqs[j+1:])
			check(t, "an equation less", p, missed)
			for k := range q.Names {
				if len(q.Names) > 1 {
					p.Nodes[i].Eqs = slices.Clone(eqs)
					p.Nodes[i].Eqs[j].Names = slices.Concat(q.Names[:k], q.Names[k+1:])
					check(t, "a name less", p, missed)
				}
			}
		}
		p.Nodes[i].Eqs = nil
		check(t, "no equations", p, missed)
		p.Nodes[i].Eqs = eqs
		check(t, "as it was", p, fine())
		for _, list := range []*[]api.Decl{&p.Nodes[i].Outs, &p.Nodes[i].Vars, &p.Nodes[i].Ins} {
			for at := range len(*list) + 1 {
				as := *list
				*list = slices.Insert(slices.Clone(as), at, api.Decl{Name: "more", Ty: api.Ty{Kind: api.KInt}})
				if list == &p.Nodes[i].Ins {
					check(t, "an input more", p, fine())
				} else {
					check(t, "a variable more", p, missed)
				}
				*list = as
			}
		}
	}
	tells(t, "node f() returns (y: int) let tel", fault(0, -1, api.ErrNone))
	tells(t, "node f(y1: int) returns (y: int) let tel", fault(0, -1, api.ErrNone))
	// What another node defines is not defined here.
	tells(t, "node f() returns (y: int) let y = 1; tel node g() returns (y: int) let tel", fault(1, -1, api.ErrNone))
	tells(t, "node f() returns (y: int) let tel node g() returns (y: int) let y = 1; tel", fault(0, -1, api.ErrNone))
	// Naming it in an expression does not define it.
	tells(t, "node f() returns (y: int; z: int) let y = z; tel", fault(0, -1, api.ErrNone))
}

// P15.2: a call is of a node ahead: the one just ahead, or another one; not of the node itself, nor of one behind it, nor of what is no node.
func TestCalls(t *testing.T) {
	all := append(names("n", 6), "nope", "n", "n6", "n00", "nX", "way", "x9", "a0", "y0", "v0")
	for i := range 6 {
		for j, s := range all {
			p := program(t, full())
			n := &p.Nodes[i]
			at := len(n.Eqs) - 1
			n.Eqs[at].E = api.Expr{Kind: api.ExCall, Name: s}
			want := fault(i, at, api.ErrNone)
			if j < i {
				want = fine()
			}
			check(t, s+" in n"+strconv.Itoa(i), p, want)
		}
	}
	// A node's name and a variable's are apart.
	tells(t, "node y() returns (y: int) let y = 1; tel node a(y: int) returns (b: int) let b = y() + y; tel", fine())
	tells(t, "node y() returns (y: int) let y = 1; tel node a() returns (b: int) let b = y; tel", fault(1, 0, api.ErrNone))
	tells(t, "node f(a: int) returns (b: int) let b = a(); tel", fault(0, 0, api.ErrNone))
}
