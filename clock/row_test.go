package clock_test

import (
	"fmt"
	"math"
	"slices"
	"strings"
	"testing"

	"noria/api"
)

// P17.1: the chapter's example.
func TestRowExample(t *testing.T) {
	p := program(t, "node f(c: bool) returns (y: int) var h: int when c; let y = 1; h = 1; tel")
	row(t, p, 0, "h", "c=1;")
	row(t, p, 0, "c", "")
	row(t, p, 0, "y", "")
}

// P17.1: inputs, outputs and others, without an On, and with rows of one condition, two, and three.
func TestRows(t *testing.T) {
	p := program(t, yard)
	want := map[string]string{
		"i": "", "b": "", "w": "", "t": "", "u": "", "a": "", "y": "", "z": "", "v": "", "x": "",
		"c": "b=1;", "h": "b=1;", "m": "b=1;", "k": "b=0;", "d": "b=0;", "l": "w=0;", "g": "w=0;", "n": "v=2;",
		"o": "b=1;c=0;", "p": "b=1;c=0;", "r": "b=1;m=1;", "s": "b=1;c=0;p=1;",
	}
	for _, d := range own(p.Nodes[main]) {
		s, there := want[d.Name]
		if !there {
			t.Fatalf("%s is not written out", d.Name)
		}
		row(t, p, main, d.Name, s)
	}
	for _, name := range []string{"", "nope", "main", "half", "Up", "way", "B", "b ", "bb", "true", "false", "1"} {
		row(t, p, main, name, never)
	}
}

// P17.1: the value of each arm, of an input, of an output, and of another variable.
func TestRowOfArms(t *testing.T) {
	vals := map[string]int64{"true": 1, "false": 0, "Up": 0, "Down": 1, "Left": 2, "Red": 0, "Green": 1, "Blue": 2, "White": 3, "Black": 4, "Grey": 5, "Only": 0}
	for arm, val := range vals {
		for _, on := range []string{"i", "y", "v"} {
			p := program(t, ways+"node f(i: int) returns (y: int) var v: int; h: int when "+arm+"("+on+"); k: int when h; let tel")
			row(t, p, 0, "h", text([]api.Cond{{Var: on, Val: val}}))
			row(t, p, 0, "k", text([]api.Cond{{Var: on, Val: val}, {Var: "h", Val: 1}}))
			// A list of enums in another order, or without this arm's, tells of no other value.
			slices.Reverse(p.Enums)
			row(t, p, 0, "h", text([]api.Cond{{Var: on, Val: val}}))
			p.Enums = nil
			if arm == "true" || arm == "false" {
				row(t, p, 0, "h", text([]api.Cond{{Var: on, Val: val}}))
			} else {
				row(t, p, 0, "h", never)
				row(t, p, 0, "k", never)
				row(t, p, 0, on, "")
			}
		}
	}
}

// chain is a program of a node whose other variables, n of them, each are there where the one ahead is, or the first one where b is; told forward, or from the last one on. The arms are those of l, again and again.
func chain(n int, forward bool, l ...string) api.Program {
	node := api.Node{Name: "f", Ins: []api.Decl{{Name: "b", Ty: api.Ty{Kind: api.KBool}}}, Outs: []api.Decl{{Name: "y", Ty: api.Ty{Kind: api.KBool}}}}
	on := "b"
	for i := range n {
		d := api.Decl{Name: fmt.Sprint("v", i), Ty: api.Ty{Kind: api.KBool}, On: on, Ctor: l[i%len(l)]}
		node.Vars = append(node.Vars, d)
		on = d.Name
	}
	if !forward {
		slices.Reverse(node.Vars)
	}
	return api.Program{Enums: []api.Enum{{Name: "way", Ctors: []string{"Up", "Down", "Left"}}}, Nodes: []api.Node{node}}
}

// P17.1: rows of as many variables as may be, and of one more, which prog.Clock tells false of.
func TestRowOfMany(t *testing.T) {
	for _, forward := range []bool{true, false} {
		for n := range 30 {
			p := chain(n, forward, "true", "false", "Left", "Up")
			want, on := "", "b"
			for i := range n {
				want += on + "=" + []string{"1", "0", "2", "0"}[i%4] + ";"
				on = fmt.Sprint("v", i)
				if i >= api.MaxVars {
					want = never
				}
				row(t, p, 0, on, want)
				if i >= api.MaxVars {
					want = ""
				}
			}
			row(t, p, 0, "b", "")
			row(t, p, 0, "y", "")
		}
	}
}

// P17.1: of a row one of whose arms leads nowhere, or one of whose variables is none, there is nothing from there on.
func TestRowBroken(t *testing.T) {
	for n := 1; n <= api.MaxVars; n++ {
		for at := range n {
			for _, bad := range []func(*api.Decl){
				func(d *api.Decl) { d.Ctor = "Nope" }, func(d *api.Decl) { d.Ctor = "" }, func(d *api.Decl) { d.Ctor = "way" }, func(d *api.Decl) { d.Ctor = "True" }, func(d *api.Decl) { d.Ctor = "1" },
				func(d *api.Decl) { d.On = "nope" }, func(d *api.Decl) { d.On = "Up" },
			} {
				p := chain(n, true, "true", "Down")
				bad(&p.Nodes[0].Vars[at])
				want, on := "", "b"
				for i := range n {
					want += on + "=1;"
					on = fmt.Sprint("v", i)
					if i >= at {
						want = never
					}
					row(t, p, 0, on, want)
				}
			}
		}
	}
}

// P17.1: of a row that comes back to one of its own there is nothing, also of what leads to it.
func TestRowBack(t *testing.T) {
	for n := 1; n <= api.MaxVars; n++ {
		for at := range n {
			for to := at; to < n; to++ {
				p := chain(n, n%2 == 0, "true", "false")
				i := slices.IndexFunc(p.Nodes[0].Vars, func(d api.Decl) bool { return d.Name == fmt.Sprint("v", at) })
				p.Nodes[0].Vars[i].On = fmt.Sprint("v", to)
				for k := range n {
					name := fmt.Sprint("v", k)
					want := never
					if k < at {
						want = rowed(chain(n, true, "true", "false"), 0, name)
					}
					row(t, p, 0, name, want)
				}
			}
		}
	}
}

// P17.1: each node's variables are its own; there is nothing at a place where no node is.
func TestRowNodes(t *testing.T) {
	p := program(t, ways+`
node f(c: bool) returns (y: int) var h: int when c; let tel
node g(c: way) returns (y: int) var h: int when Left(c); k: int when y; let tel
node k(h: int) returns (c: int) let tel
`)
	for node, l := range []map[string]string{
		{"c": "", "y": "", "h": "c=1;", "k": never}, {"c": "", "y": "", "h": "c=2;", "k": "y=1;"}, {"c": "", "h": "", "y": never, "k": never},
	} {
		for name, want := range l {
			row(t, p, node, name, want)
		}
	}
	for _, node := range []int{-1, -2, -3, 3, 4, math.MaxInt, math.MinInt, math.MaxInt32, math.MinInt32} {
		for _, name := range []string{"c", "h", "y", "k", ""} {
			row(t, p, node, name, never)
			row(t, api.Program{}, node, name, never)
		}
	}
	row(t, api.Program{}, 0, "c", never)
	row(t, api.Program{Nodes: []api.Node{}}, 0, "", never)
}

// P17.1: of two variables of one name the first one counts; an input and an output with an On have a row as others have.
func TestRowOfFirst(t *testing.T) {
	decl := func(name, on, ctor string) api.Decl { return api.Decl{Name: name, On: on, Ctor: ctor} }
	n := api.Node{
		Ins:  []api.Decl{decl("a", "b", "true"), decl("b", "", ""), decl("b", "a", "true")},
		Outs: []api.Decl{decl("y", "a", "false"), decl("a", "", ""), decl("y", "", "")},
		Vars: []api.Decl{decl("h", "y", "true"), decl("y", "h", "true"), decl("h", "", ""), decl("", "h", "false")},
	}
	p := api.Program{Nodes: []api.Node{n}}
	for name, want := range map[string]string{"a": "b=1;", "b": "", "y": "b=1;a=0;", "h": "b=1;a=0;y=1;", "": "b=1;a=0;y=1;h=0;"} {
		row(t, p, 0, name, want)
	}
	// A Ctor without an On is none.
	p.Nodes[0].Ins[1].Ctor = "Nope"
	row(t, p, 0, "a", "b=1;")
}

// P17.1: a text's length, or a row's, is no bound.
func TestRowOfLongNames(t *testing.T) {
	name := strings.Repeat("a", 100000)
	n := api.Node{Ins: []api.Decl{{Name: "b"}}, Vars: []api.Decl{{Name: name, On: "b", Ctor: "true"}}}
	for i := range 50000 {
		n.Ins = append(n.Ins, api.Decl{Name: fmt.Sprint("x", i)})
	}
	row(t, api.Program{Nodes: []api.Node{n}}, 0, name, "b=1;")
	row(t, api.Program{Nodes: []api.Node{n}}, 0, "x49999", "")
}
