package print_test

import (
	"math"
	"reflect"
	"strconv"
	"strings"
	"testing"

	"noria/api"
	"noria/parse"
	"noria/print"
	"noria/prog"
)

// told has of each text that was told the program that has it.
type told map[string]api.Program

// add asks that p has a text if it may be, and none if not; and that of what was told so far only the same program has it. It tells whether there was none such.
func (l told) add(t *testing.T, p api.Program) bool {
	t.Helper()
	s := print.Text(p)
	if prog.Check(p) != api.OK {
		if s != "" {
			t.Fatalf("%s may not be, and has a text", cut(p))
		}
		return false
	}
	q, there := l[s]
	if s == "" || there && !prog.Same(p, q) {
		t.Fatalf("two have one text: %s, %s, %q", cut(p), cut(q), s)
	}
	if !there {
		l[s] = p
	}
	return !there
}

// back makes a program of its text, line by line.
func back(t *testing.T, s string) api.Program {
	t.Helper()
	var p api.Program
	lines := strings.Split(s, "\n")
	for _, line := range lines[:len(lines)-1] {
		word, rest, _ := strings.Cut(line, " ")
		at := max(len(p.Nodes)-1, 0)
		switch word {
		case "enum":
			name, rest, _ := strings.Cut(rest, " { ")
			p.Enums = append(p.Enums, enum(name, strings.Split(strings.TrimSuffix(rest, " };"), ", ")...))
		case "node":
			name, rest, _ := strings.Cut(strings.TrimSuffix(rest, ")"), "(")
			ins, outs, _ := strings.Cut(rest, ") returns (")
			p.Nodes = append(p.Nodes, api.Node{Name: name, Ins: backDecls(p.Enums, ins), Outs: backDecls(p.Enums, outs)})
		case "var":
			p.Nodes[at].Vars = backDecls(p.Enums, strings.TrimSuffix(rest, ";"))
		case "":
			left, right, _ := strings.Cut(strings.TrimSuffix(line[2:], ";"), " = ")
			e, _, err := parse.Expr(right)
			if err != api.OK {
				t.Fatalf("%q does not go back: %d", right, err)
			}
			p.Nodes[at].Eqs = append(p.Nodes[at].Eqs, eq(e, strings.Split(left, ", ")...))
		}
	}
	return p
}

// backDecls makes variables of their texts.
func backDecls(enums []api.Enum, s string) []api.Decl {
	var l []api.Decl
	if s == "" {
		return l
	}
	for _, text := range strings.Split(s, "; ") {
		var d api.Decl
		text, d.On, _ = strings.Cut(text, " when ")
		name, rest, _ := strings.Cut(text, ": ")
		kind, length, _ := strings.Cut(strings.TrimSuffix(rest, "]"), "[")
		d.Name, d.Ty = name, backType(enums, kind, length)
		switch arm, on, constructed := strings.Cut(strings.TrimSuffix(d.On, ")"), "("); {
		case d.On == "":
		case constructed:
			d.On, d.Ctor = on, arm
		case strings.HasPrefix(d.On, "not "):
			d.On, d.Ctor = strings.TrimPrefix(d.On, "not "), "false"
		default:
			d.Ctor = "true"
		}
		l = append(l, d)
	}
	return l
}

// backType makes a type of the text of its kind, and of its length.
func backType(enums []api.Enum, kind, length string) api.Ty {
	n, _ := strconv.Atoi(length)
	switch kind {
	case "int":
		return of(api.KInt, 0, n)
	case "bool":
		return of(api.KBool, 0, n)
	}
	for i, e := range enums {
		if e.Name == kind {
			return of(api.KEnum, i, n)
		}
	}
	return api.Ty{}
}

// whole asks that p's text goes back to p, and to nothing else.
func whole(t *testing.T, p api.Program) {
	t.Helper()
	s := print.Text(p)
	q := back(t, s)
	if s == "" || !prog.Same(p, q) || print.Text(q) != s {
		t.Fatalf("%s does not come back from its text, but %s", cut(p), cut(q))
	}
}

// P13.3: the text of a program that may be goes back to it, so it has no text that another one has.
func TestWhole(t *testing.T) {
	for _, p := range []api.Program{example(), small(), roomy(), full()} {
		whole(t, p)
	}
	r := rolled(43)
	n := 0
	for range 1500 {
		if p := r.program(); prog.Check(p) == api.OK {
			whole(t, p)
			n++
		}
	}
	if n < 800 {
		t.Fatalf("%d came back", n)
	}
}

// P13.3: programs that are the same have one text, whichever lists are none and whichever empty.
func TestOneText(t *testing.T) {
	one, again := rolled(44), rolled(44)
	l := []api.Program{example(), small(), roomy(), full()}
	for range 500 {
		p := one.program()
		if print.Text(p) != print.Text(again.program()) {
			t.Fatalf("two texts of %s", cut(p))
		}
		l = append(l, p)
	}
	for _, p := range l {
		want := print.Text(p)
		for _, q := range []api.Program{copied(p), none(p), empty(p)} {
			if s := print.Text(q); s != want || !prog.Same(p, q) {
				t.Fatalf("%s has the text\n%s\nand not\n%s", cut(q), s, want)
			}
		}
	}
	p := roomy()
	for at := range places(p) {
		q := changed(p, at, func(v reflect.Value) {
			if v.Kind() == reflect.Slice && v.Len() == 0 {
				v.Set(list(v, 2))
			}
		})
		if print.Text(q) != print.Text(p) {
			t.Fatalf("two texts, as the list at %d is empty", at)
		}
	}
}

// differences change a field or a list, where they are of its kind; some of what comes of it may be, some may not.
func differences() []func(reflect.Value) {
	var l []func(reflect.Value)
	for _, n := range []int64{-1, 1, 2, 1 << 32, math.MinInt64} {
		l = append(l, func(v reflect.Value) {
			if v.CanInt() {
				v.SetInt(v.Int() + n)
			}
		})
	}
	for _, s := range []string{"x", "a0", "a1", "y0", "v1", "f", "Up", "Red", "New", "true", "false", "True", ""} {
		l = append(l, func(v reflect.Value) {
			if v.Kind() == reflect.String {
				v.SetString(s)
			}
		})
	}
	for _, s := range []string{"x", "_", "0"} {
		l = append(l, func(v reflect.Value) {
			if v.Kind() == reflect.String {
				v.SetString(v.String() + s)
			}
		})
	}
	list := func(least int, change func(reflect.Value)) {
		l = append(l, func(v reflect.Value) {
			if v.Kind() == reflect.Slice && v.Len() >= least {
				change(v)
			}
		})
	}
	list(1, func(v reflect.Value) { v.Set(reflect.Append(v, v.Index(v.Len()-1))) })
	list(1, func(v reflect.Value) { v.SetLen(v.Len() - 1) })
	list(1, func(v reflect.Value) { v.Set(v.Slice(1, v.Len())) })
	list(1, func(v reflect.Value) { v.SetZero() })
	list(2, func(v reflect.Value) { reflect.Swapper(v.Interface())(0, 1) })
	list(2, func(v reflect.Value) { reflect.Swapper(v.Interface())(0, v.Len()-1) })
	return l
}

// P13.3: of all that comes of a program by one change, at whatever place, no two that differ have one text, and each goes back.
func TestOneChange(t *testing.T) {
	did := make([]int, len(differences()))
	for _, p := range []api.Program{example(), small(), roomy()} {
		l := told{}
		l.add(t, p)
		for at := range places(p) {
			for i, change := range differences() {
				q := changed(p, at, change)
				if !l.add(t, q) {
					continue
				}
				did[i]++
				whole(t, q)
				if prog.Same(p, q) || print.Text(p) == print.Text(q) {
					t.Fatalf("%s is as %s", cut(q), cut(p))
				}
			}
		}
	}
	for i, n := range did {
		if n == 0 && i < 2 {
			t.Fatalf("the change %d made nothing new", i)
		}
	}
}

// P13.3: each field in turn, in the first, the last and a middle one of what there is, has its own part of the text.
func TestEachField(t *testing.T) {
	did := map[string]int{}
	differ := func(field string, change func(p *api.Program, n *api.Node, at int) bool) {
		t.Helper()
		for at := range 3 {
			for in := range 3 {
				p := roomy()
				q := copied(p)
				if !change(&q, &q.Nodes[in], at) {
					continue
				}
				if prog.Check(q) != api.OK || prog.Same(p, q) {
					t.Fatalf("%s, changed at %d in %d: %d", field, at, in, prog.Check(q))
				}
				if print.Text(p) == print.Text(q) {
					t.Fatalf("%s, changed at %d in %d, is not to be seen", field, at, in)
				}
				did[field]++
			}
		}
	}
	decl := func(field string, change func(d *api.Decl)) {
		t.Helper()
		lists := func(n *api.Node) [][]api.Decl { return [][]api.Decl{n.Ins, n.Outs, n.Vars} }
		for i, name := range []string{"inputs: ", "outputs: ", "others: "} {
			differ(name+field, func(_ *api.Program, n *api.Node, at int) bool {
				l := lists(n)[i]
				if at < len(l) {
					change(&l[at])
				}
				return at < len(l)
			})
		}
	}
	enum := func(change func(*api.Enum)) func(*api.Program, *api.Node, int) bool {
		return func(p *api.Program, _ *api.Node, at int) bool {
			if at < len(p.Enums) {
				change(&p.Enums[at])
			}
			return at < len(p.Enums)
		}
	}
	differ("an enum's name", enum(func(e *api.Enum) { e.Name = "new" }))
	differ("an enum's first constructor", enum(func(e *api.Enum) { e.Ctors[0] = "New" }))
	differ("an enum's last constructor", enum(func(e *api.Enum) { e.Ctors[2] = "New" }))
	differ("an enum's constructors", enum(func(e *api.Enum) { e.Ctors = e.Ctors[:2] }))
	differ("the order of constructors", enum(func(e *api.Enum) { e.Ctors[0], e.Ctors[1] = e.Ctors[1], e.Ctors[0] }))
	differ("enums", func(p *api.Program, _ *api.Node, at int) bool {
		p.Enums = append(p.Enums, api.Enum{Name: "new", Ctors: []string{"New"}})
		return true
	})
	differ("the order of enums", func(p *api.Program, _ *api.Node, at int) bool {
		p.Enums[0], p.Enums[1] = p.Enums[1], p.Enums[0]
		return true
	})
	differ("a node's name", func(_ *api.Program, n *api.Node, _ int) bool { n.Name = "new"; return true })
	differ("nodes", func(p *api.Program, _ *api.Node, at int) bool {
		p.Nodes = append(p.Nodes[:at:at], p.Nodes[at+1:]...)
		return true
	})
	differ("the order of nodes", func(p *api.Program, _ *api.Node, at int) bool {
		p.Nodes[at], p.Nodes[(at+1)%3] = p.Nodes[(at+1)%3], p.Nodes[at]
		return true
	})
	decl("name", func(d *api.Decl) { d.Name = "new" })
	decl("kind", func(d *api.Decl) { d.Ty.Kind, d.Ty.Enum = 1+d.Ty.Kind%2, 0 })
	decl("enum", func(d *api.Decl) {
		d.Ty.Enum = 1 - d.Ty.Enum
		d.Ty.Kind = api.KEnum
	})
	decl("length", func(d *api.Decl) { d.Ty.Len = (d.Ty.Len + 1) % 9 })
	clock := func(change func(d *api.Decl)) func(*api.Program, *api.Node, int) bool {
		return func(_ *api.Program, n *api.Node, at int) bool { change(&n.Vars[at]); return true }
	}
	differ("On", clock(func(d *api.Decl) { d.On = "new" }))
	differ("Ctor New", clock(func(d *api.Decl) { d.Ctor = "New" }))
	differ("Ctor and On", clock(func(d *api.Decl) { d.On, d.Ctor = "", "" }))
	for _, arm := range []string{"true", "false", "Up"} {
		differ("Ctor "+arm, func(_ *api.Program, n *api.Node, at int) bool {
			was := n.Vars[at].Ctor
			n.Vars[at].Ctor = arm
			return was != arm
		})
	}
	eqs := func(change func(n *api.Node, at int)) func(*api.Program, *api.Node, int) bool {
		return func(_ *api.Program, n *api.Node, at int) bool { change(n, 2*at); return true }
	}
	differ("an equation's first name", eqs(func(n *api.Node, at int) { n.Eqs[at].Names[0] = "new" }))
	differ("an equation's last name", eqs(func(n *api.Node, _ int) { n.Eqs[3].Names[2] = "new" }))
	differ("an equation's names", eqs(func(n *api.Node, _ int) { n.Eqs[3].Names = n.Eqs[3].Names[:2] }))
	differ("an equation's E", eqs(func(n *api.Node, at int) { n.Eqs[at].E = variable("new") }))
	differ("equations", eqs(func(n *api.Node, at int) { n.Eqs = append(n.Eqs[:at:at], n.Eqs[at+1:]...) }))
	differ("the order of equations", eqs(func(n *api.Node, at int) { n.Eqs[at], n.Eqs[1] = n.Eqs[1], n.Eqs[at] }))
	for field, n := range did {
		if n == 0 {
			t.Fatalf("%s never changed", field)
		}
	}
}

// sorts are all lists of up to n of these.
func sorts[T any](n int, of ...T) [][]T {
	l := [][]T{nil}
	from := 0
	for range n {
		to := len(l)
		for _, ahead := range l[from:to] {
			for _, x := range of {
				l = append(l, append(ahead[:len(ahead):len(ahead)], x))
			}
		}
		from = to
	}
	return l
}

// P13.3: of all small programs with one node no two have one text.
func TestSmall(t *testing.T) {
	b, c := always("b"), always("c")
	b.Ty = of(api.KEnum, 0, 0)
	c.Ty = of(api.KBool, 0, 1)
	ports := sorts(2, always("a"), b, c)
	others := sorts(2, always("d"), when("d", "a", "true"), when("e", "a", "false"), when("e", "d", "A"))
	left := sorts(2, eq(variable("a"), "a"), eq(call("f"), "a", "b"), eq(call("f"), "b"), eq(call("a", variable("b")), "a"))
	enums := [][]api.Enum{{enum("e", "A")}, {enum("e", "A", "B")}, {enum("e", "A"), enum("f", "B")}, {enum("f", "A"), enum("e", "B")}, {enum("g", "B", "A")}}
	l := told{}
	n := 0
	for _, e := range enums {
		for _, ins := range ports {
			for _, outs := range ports {
				for _, vars := range others {
					for _, eqs := range left {
						p := api.Program{Enums: e, Nodes: []api.Node{{Name: "f", Ins: ins, Outs: outs, Vars: vars, Eqs: eqs}}}
						if prog.Check(p) == api.OK {
							n++
							l.add(t, p)
						}
					}
				}
			}
		}
	}
	if n != len(l) || n < 20000 {
		t.Fatalf("%d small ones, and %d texts", n, len(l))
	}
}

// P13.3: of all programs of up to two small nodes no two have one text.
func TestSmallNodes(t *testing.T) {
	var nodes []api.Node
	for _, name := range []string{"f", "g"} {
		for _, outs := range sorts(1, always("a"), always("b"))[1:] {
			for _, ins := range sorts(1, always("c")) {
				for _, vars := range sorts(1, always("d"), when("d", "a", "true")) {
					for _, eqs := range sorts(2, eq(num(1), "a"), eq(call("f"), "a", "b")) {
						nodes = append(nodes, api.Node{Name: name, Ins: ins, Outs: outs, Vars: vars, Eqs: eqs})
					}
				}
			}
		}
	}
	l := told{}
	n := 0
	for _, some := range sorts(2, nodes...)[1:] {
		p := api.Program{Nodes: some}
		if prog.Check(p) == api.OK {
			n++
			l.add(t, p)
		}
	}
	if n != len(l) || n < 10000 {
		t.Fatalf("%d small ones, and %d texts", n, len(l))
	}
}

// P13.3: an item of one list does not stand for one of another, nor several for one.
func TestMoved(t *testing.T) {
	one := func(n api.Node) api.Program {
		n.Name = "f"
		if len(n.Outs) == 0 {
			n.Outs = decls("y", 1)
		}
		return api.Program{Nodes: []api.Node{n}}
	}
	two := decls("a", 2)
	g := call("g", variable("a"), variable("b"))
	l := []api.Program{
		one(api.Node{}), one(api.Node{Ins: two}), one(api.Node{Outs: two}), one(api.Node{Vars: two}),
		one(api.Node{Ins: two[:1], Outs: two[1:]}), one(api.Node{Ins: two[1:], Outs: two[:1]}), one(api.Node{Outs: two[:1], Vars: two[1:]}), one(api.Node{Outs: two[1:], Vars: two[:1]}),
		one(api.Node{Ins: two[:1], Vars: two[1:]}), one(api.Node{Ins: two[1:], Vars: two[:1]}), one(api.Node{Outs: two[:1]}), one(api.Node{Outs: two[1:]}),
		one(api.Node{Vars: two[:1]}), one(api.Node{Vars: two[1:]}), one(api.Node{Ins: two[:1]}), one(api.Node{Ins: two[1:]}),
		one(api.Node{Eqs: []api.Eq{eq(g, "a", "b")}}), one(api.Node{Eqs: []api.Eq{eq(g, "a"), eq(g, "b")}}), one(api.Node{Eqs: []api.Eq{eq(g, "ab")}}), one(api.Node{Eqs: []api.Eq{eq(g, "b", "a")}}), one(api.Node{Eqs: []api.Eq{eq(g, "b"), eq(g, "a")}}),
		one(api.Node{Eqs: []api.Eq{eq(g, "a", "b", "c"), eq(g, "d")}}), one(api.Node{Eqs: []api.Eq{eq(g, "a", "b"), eq(g, "c", "d")}}), one(api.Node{Eqs: []api.Eq{eq(g, "a"), eq(g, "b", "c", "d")}}),
	}
	enums := [][]api.Enum{
		{enum("a", "B", "C")}, {enum("a", "C", "B")}, {enum("a", "BC")}, {enum("a", "B"), enum("c", "C")}, {enum("c", "C"), enum("a", "B")}, {enum("a", "C"), enum("c", "B")},
		{enum("a", "B", "C"), enum("c", "D", "E")}, {enum("a", "B"), enum("c", "C", "D", "E")}, {enum("a", "B", "C", "D"), enum("c", "E")},
	}
	for _, e := range enums {
		l = append(l, api.Program{Enums: e, Nodes: one(api.Node{}).Nodes})
	}
	seen := told{}
	for _, p := range l {
		if !seen.add(t, p) {
			t.Fatalf("%s is not right, or is there twice", cut(p))
		}
		whole(t, p)
	}
}

// P13.3: of what chance makes, and of what comes of it by one change, no two have one text.
func TestChangedByChance(t *testing.T) {
	r := rolled(45)
	l := told{}
	change := differences()
	for range 400 {
		p := r.program()
		l.add(t, p)
		n := places(p)
		for range 20 {
			l.add(t, changed(p, r.IntN(n), change[r.IntN(len(change))]))
		}
	}
	if len(l) < 500 {
		t.Fatalf("%d have a text", len(l))
	}
}
