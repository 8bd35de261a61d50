package prog_test

import (
	"reflect"
	"slices"
	"strconv"
	"testing"

	"noria/api"
	"noria/prog"
)

// P12.2: Find tells the first node of a name, -1 of none.
func TestFind(t *testing.T) {
	find := func(p api.Program, name string, want int) {
		t.Helper()
		if i := prog.Find(p, name); i != want {
			t.Fatalf("Find of %q is %d, not %d: %s", name, i, want, cut(p))
		}
	}
	for _, p := range append(bases(), example()) {
		as := copied(p)
		for i, n := range p.Nodes {
			find(p, n.Name, i)
			find(none(p), n.Name, i)
			find(p, n.Name+"x", -1)
			find(p, n.Name+"\x00", -1)
			find(p, n.Name[:len(n.Name)-1], -1)
		}
		for _, s := range append(noLow(), "way", "a0", "y0", "v0", "c", "N0", "n6") {
			find(p, s, -1)
		}
		if !reflect.DeepEqual(p, as) {
			t.Fatalf("Find has changed %s", cut(as))
		}
	}
	for _, s := range []string{"", "f", "node"} {
		find(api.Program{}, s, -1)
		find(api.Program{Enums: []api.Enum{enum(s, s)}}, s, -1)
		find(api.Program{Enums: enums(), Nodes: []api.Node{{}, {Name: "f"}, {Name: "node"}}}, s, slices.Index([]string{"", "f", "node"}, s))
	}
	// Of several the first one; more of them than may be do no harm.
	for n := 1; n < 9; n++ {
		for first := range n {
			for second := first; second < n; second++ {
				p := api.Program{Nodes: make([]api.Node, n)}
				p.Nodes[first].Name, p.Nodes[second].Name = "f", "f"
				find(p, "f", first)
				find(p, "g", -1)
			}
		}
	}
	many := api.Program{Nodes: make([]api.Node, 70000)}
	many.Nodes[69999].Name = "f"
	find(many, "f", 69999)
}

// decl holds what Decl tells against want.
func decl(t *testing.T, n api.Node, name string, want api.Decl, there bool) {
	t.Helper()
	d, ok := prog.Decl(n, name)
	if d != want || ok != there {
		t.Fatalf("Decl of %q is %+v, %v, not %+v, %v: %s", name, d, ok, want, there, cut(n))
	}
}

// P12.2: Decl tells each variable, wherever it stands, and zeros of what is none.
func TestDecl(t *testing.T) {
	for _, p := range append(bases(), example()) {
		as := copied(p)
		for _, n := range p.Nodes {
			for _, l := range lists(&n) {
				for _, d := range *l {
					decl(t, n, d.Name, d, true)
					decl(t, n, d.Name+"x", api.Decl{}, false)
					decl(t, n, d.Name[1:], api.Decl{}, false)
				}
			}
			for _, s := range append(noLow(), "way", "a6", "y6", "v12", "C", "zz") {
				decl(t, n, s, api.Decl{}, false)
			}
			// An equation's names make no variables.
			n.Eqs = []api.Eq{eq(variable("q"), "q")}
			decl(t, n, "q", api.Decl{}, false)
			n.Name = "q"
			decl(t, n, "q", api.Decl{}, false)
		}
		if !reflect.DeepEqual(p, as) {
			t.Fatalf("Decl has changed %s", cut(as))
		}
	}
	for _, s := range []string{"", "a"} {
		decl(t, api.Node{}, s, api.Decl{}, false)
		decl(t, api.Node{Name: s}, s, api.Decl{}, false)
	}
	// A name is told apart from one that begins it.
	n := api.Node{Ins: []api.Decl{always("abc")}, Outs: []api.Decl{always("a")}, Vars: []api.Decl{when("ab", "a", "Up"), always("aB")}}
	for _, d := range slices.Concat(n.Ins, n.Outs, n.Vars) {
		decl(t, n, d.Name, d, true)
	}
	// All fields are told, whatever they are.
	odd := api.Decl{Name: "", Ty: of(-7, 1<<40, 99), On: "\x00", Ctor: "no arm"}
	decl(t, api.Node{Vars: []api.Decl{always("a"), odd}}, "", odd, true)
	odd.Name = "not a name"
	decl(t, api.Node{Ins: []api.Decl{always("a"), odd}}, odd.Name, odd, true)
}

// P12.2: of two variables of one name the first is told: of the inputs, then the outputs, then the others.
func TestDeclFirst(t *testing.T) {
	const size = 3
	for i := range 3 * size {
		for j := i; j < 3*size; j++ {
			n := api.Node{Ins: decls("a", size), Outs: decls("b", size), Vars: decls("c", size)}
			first, second := when("x", "one", "One"), when("x", "two", "Two")
			(*lists(&n)[j/size])[j%size] = second
			(*lists(&n)[i/size])[i%size] = first
			decl(t, n, "x", first, true)
		}
	}
}

// clocked holds what Clock tells against want, and that it leaves n as it is.
func clocked(t *testing.T, n api.Node, name string, want []api.Decl, there bool) {
	t.Helper()
	p := api.Program{Nodes: []api.Node{n}}
	as := copied(p)
	row, ok := prog.Clock(n, name)
	if !slices.Equal(row, want) || ok != there {
		t.Fatalf("Clock of %q is %s, %v, not %s, %v: %s", name, cut(row), ok, cut(want), there, cut(n))
	}
	if !ok && row != nil {
		t.Fatalf("Clock of %q tells a row beside false", name)
	}
	if !reflect.DeepEqual(p, as) {
		t.Fatalf("Clock of %q has changed %s", name, cut(as.Nodes[0]))
	}
}

// P12.2: the chapter's example.
func TestClockExample(t *testing.T) {
	n := example().Nodes[0]
	clocked(t, n, "h", []api.Decl{when("h", "c", "true")}, true)
	clocked(t, n, "c", nil, true)
	clocked(t, n, "y", nil, true)
	clocked(t, n, "x", nil, false)
	clocked(t, n, "f", nil, false)
	clocked(t, n, "", nil, false)
}

// P12.2: rows of no variable, of one, and of up to just MaxVars are told; one that would be longer is none.
func TestClockRows(t *testing.T) {
	for length := range 40 {
		n := api.Node{Ins: []api.Decl{always("c")}, Vars: chain("c", "v", length)}
		clocked(t, n, "c", nil, true)
		for i, d := range n.Vars {
			if i < 12 {
				clocked(t, n, d.Name, n.Vars[:i+1], true)
			} else {
				clocked(t, n, d.Name, nil, false)
			}
		}
		// In whichever order, and in whichever list, they stand.
		l := slices.Clone(n.Vars)
		slices.Reverse(l)
		turned := api.Node{Ins: l[:length/3], Outs: l[length/3 : length/2], Vars: append(l[length/2:], always("c"))}
		for i, d := range n.Vars {
			if i < 12 {
				clocked(t, turned, d.Name, n.Vars[:i+1], true)
			} else {
				clocked(t, turned, d.Name, nil, false)
			}
		}
	}
	p := full()
	for _, n := range p.Nodes {
		clocked(t, n, "v11", n.Vars, true)
		clocked(t, n, "v5", n.Vars[:6], true)
		clocked(t, n, "a0", nil, true)
		clocked(t, n, "y5", nil, true)
	}
}

// P12.2: a row on whose way there is a name that is no variable's is none, however long it is.
func TestClockOfNone(t *testing.T) {
	for length := 1; length < 30; length++ {
		n := api.Node{Ins: []api.Decl{always("c")}, Vars: chain("x", "v", length)}
		for _, d := range n.Vars {
			clocked(t, n, d.Name, nil, false)
		}
		clocked(t, n, "c", nil, true)
		clocked(t, n, "x", nil, false)
		for broken := range length {
			n := api.Node{Ins: []api.Decl{always("c")}, Vars: chain("c", "v", length)}
			n.Vars[broken].On = "C"
			for i, d := range n.Vars {
				if i < broken && i < 12 {
					clocked(t, n, d.Name, n.Vars[:i+1], true)
				} else {
					clocked(t, n, d.Name, nil, false)
				}
			}
		}
	}
	// A node's and an enum's name, and an equation's, are no variable's.
	n := api.Node{Name: "f", Outs: []api.Decl{always("y")}, Vars: []api.Decl{when("a", "f", "true"), when("b", "q", "Up")}, Eqs: []api.Eq{eq(num(1), "q")}}
	clocked(t, n, "a", nil, false)
	clocked(t, n, "b", nil, false)
}

// P12.2: a row that comes back to a variable has no end, so it is none; of which variable it begins, and however far round it is.
func TestClockRound(t *testing.T) {
	for length := 1; length < 30; length++ {
		for back := range length {
			n := api.Node{Ins: []api.Decl{always("c")}, Vars: chain("c", "v", length)}
			n.Vars[0].On = n.Vars[back].Name
			for _, d := range n.Vars {
				clocked(t, n, d.Name, nil, false)
			}
			clocked(t, n, "c", nil, true)
			n = api.Node{Ins: []api.Decl{always("c")}, Vars: chain("c", "v", length)}
			n.Vars[back].On = n.Vars[length-1].Name
			for i, d := range n.Vars {
				if i < back && i < 12 {
					clocked(t, n, d.Name, n.Vars[:i+1], true)
				} else {
					clocked(t, n, d.Name, nil, false)
				}
			}
		}
	}
}

// P12.2: of two variables of one name the first is told, in a row too.
func TestClockFirst(t *testing.T) {
	c, x, y := always("c"), when("x", "c", "true"), when("x", "h", "false")
	h := when("h", "x", "Up")
	for _, n := range []api.Node{
		{Ins: []api.Decl{c, x, y, h}}, {Ins: []api.Decl{c, x}, Vars: []api.Decl{y, h}}, {Ins: []api.Decl{c, x}, Outs: []api.Decl{y, h}},
		{Outs: []api.Decl{h, x}, Vars: []api.Decl{y, c}}, {Vars: []api.Decl{h, x, y, c}},
	} {
		clocked(t, n, "x", []api.Decl{x}, true)
		clocked(t, n, "h", []api.Decl{x, h}, true)
	}
	for _, n := range []api.Node{
		{Ins: []api.Decl{c, y, x, h}}, {Ins: []api.Decl{c, y}, Vars: []api.Decl{x, h}}, {Outs: []api.Decl{h, y}, Vars: []api.Decl{x, c}},
	} {
		clocked(t, n, "x", nil, false)
		clocked(t, n, "h", nil, false)
	}
}

// P12.2: only On is asked whether a variable has one, whatever else is wrong with it.
func TestClockOfWrong(t *testing.T) {
	odd := api.Decl{Name: "", Ty: of(-7, 1<<40, 99), Ctor: "no arm"}
	bare := api.Decl{Name: "h", On: "no name"}
	there := api.Decl{Name: "no name", Ty: of(9, 9, 9), On: "c d"}
	last := api.Decl{Name: "c d", Ctor: "Up"}
	n := api.Node{Ins: []api.Decl{odd, bare}, Outs: []api.Decl{there, last}}
	clocked(t, n, "", nil, true)
	clocked(t, n, "h", []api.Decl{there, bare}, true)
	clocked(t, n, "no name", []api.Decl{there}, true)
	clocked(t, n, "c d", nil, true)
	clocked(t, n, "c", nil, false)
	clocked(t, api.Node{}, "", nil, false)
}

// rowOf is a clock's row as the chapter puts it; it asks no more of what is known to have no end.
func rowOf(n api.Node, name string, most int) ([]api.Decl, bool) {
	d, there := prog.Decl(n, name)
	if !there {
		return nil, false
	}
	if d.On == "" {
		return nil, true
	}
	if most == 0 {
		return nil, false
	}
	row, ok := rowOf(n, d.On, most-1)
	if !ok {
		return nil, false
	}
	return append(row, d), true
}

// laws holds the rows of all variables of n against P12.3.
func laws(t *testing.T, n api.Node) int {
	t.Helper()
	rows := 0
	for _, d := range slices.Concat(n.Ins, n.Outs, n.Vars) {
		row, ok := prog.Clock(n, d.Name)
		if !ok || len(row) == 0 {
			continue
		}
		rows++
		seen := map[string]int{}
		for i, v := range row {
			seen[v.Name]++
			if w, there := prog.Decl(n, v.Name); !there || w != v {
				t.Fatalf("%+v of the row of %s is no variable: %s", v, d.Name, cut(n))
			}
			if i > 0 && v.On != row[i-1].Name {
				t.Fatalf("%+v of the row of %s stands behind %+v", v, d.Name, row[i-1])
			}
		}
		if on, there := prog.Decl(n, row[0].On); row[0].On == "" || !there || on.On != "" {
			t.Fatalf("the first one of the row of %s is on %+v, %v", d.Name, on, there)
		}
		if len(seen) != len(row) || len(row) > 12 || row[len(row)-1].Name != d.Name {
			t.Fatalf("the row of %s is %s", d.Name, cut(row))
		}
	}
	return rows
}

// P12.2, P12.3: of all nodes of up to five variables, each of them on any of them, on none, or on what there is not.
func TestClockOfAll(t *testing.T) {
	for size := 1; size <= 5; size++ {
		ons := append(names("v", size), "", "x")
		told := 1
		for range size {
			told *= len(ons)
		}
		for code := range told {
			l := decls("v", size)
			for i := range l {
				l[i].On, l[i].Ctor = ons[code%len(ons)], "C"+strconv.Itoa(i)
				code /= len(ons)
			}
			n := api.Node{Ins: l[:size/2], Outs: l[size/2 : size/2], Vars: l[size/2:]}
			for _, d := range l {
				want, there := rowOf(n, d.Name, 12)
				row, ok := prog.Clock(n, d.Name)
				if !slices.Equal(row, want) || ok != there {
					t.Fatalf("Clock of %s is %s, %v: %s", d.Name, cut(row), ok, cut(n))
				}
			}
			laws(t, n)
		}
	}
}

// P12.3: in the rows of all variables each one has the one ahead of it as its On, the first one one without; they are unlike.
func TestClockLaws(t *testing.T) {
	for _, p := range append(bases(), example()) {
		for i, n := range p.Nodes {
			if rows := laws(t, n); rows == 0 && len(n.Vars) > 0 {
				t.Fatalf("the node %d has no rows", i)
			}
		}
	}
	for length := range 40 {
		for _, on := range []string{"c", "x", "v0", "v7", "v12", "v39"} {
			laws(t, api.Node{Ins: []api.Decl{always("c")}, Vars: chain(on, "v", length)})
		}
		// A tree: many rows that part.
		tree := api.Node{Ins: []api.Decl{always("v")}}
		for i := range length {
			tree.Vars = append(tree.Vars, when("v"+strconv.Itoa(i), "v"+strconv.Itoa((i-1)/2), "Up"))
		}
		if length > 0 {
			tree.Vars[0].On = "v"
		}
		if rows := laws(t, tree); rows != length {
			t.Fatalf("%d of %d have rows", rows, length)
		}
	}
}

// A row is new memory: what is done to it changes no node, and no other row.
func TestClockIsNew(t *testing.T) {
	n := full().Nodes[0]
	as := slices.Clone(n.Vars)
	row, _ := prog.Clock(n, "v11")
	other, _ := prog.Clock(n, "v11")
	for i := range row {
		row[i] = api.Decl{}
	}
	if !slices.Equal(n.Vars, as) || !slices.Equal(other, as) {
		t.Error("a row is a piece of its node, or of another row")
	}
}
