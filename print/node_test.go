package print_test

import (
	"fmt"
	"reflect"
	"slices"
	"strings"
	"testing"

	"noria/api"
	"noria/print"
	"noria/show"
)

// node holds what Node tells of n, where the enums are l, against want: with empty lists and with none; it changes nothing.
func node(t *testing.T, l []api.Enum, n api.Node, want string) {
	t.Helper()
	p := api.Program{Enums: l, Nodes: []api.Node{n}}
	was := copied(p)
	for _, q := range []api.Program{p, none(p), empty(p)} {
		if s := print.Node(q.Enums, q.Nodes[0]); s != want {
			t.Fatalf("Node of %s is\n%s\nand not\n%s", cut(n), s, want)
		}
	}
	if !reflect.DeepEqual(p, was) {
		t.Fatalf("Node has changed %s", cut(was))
	}
}

// joined tells so many texts, made of their numbers, with something between.
func joined(n int, between, form string) string {
	var l []string
	for i := range n {
		l = append(l, fmt.Sprintf(form, i))
	}
	return strings.Join(l, between)
}

// P13.1: the chapter's example, byte for byte.
func TestNodeExample(t *testing.T) {
	node(t, nil, example().Nodes[0], exampleText)
}

// P13.1: a node with something of everything, byte for byte.
func TestNodeWhole(t *testing.T) {
	l := enums()
	w := api.Decl{Name: "w", Ty: of(api.KEnum, 0, 0)}
	b := api.Decl{Name: "b", Ty: of(api.KBool, 0, 2)}
	z := api.Decl{Name: "z", Ty: of(api.KEnum, 1, 8)}
	k := when("k", "c", "false")
	k.Ty = of(api.KEnum, 2, 1)
	m := when("m", "w", "Up")
	m.Ty = of(api.KBool, 0, 0)
	plus := api.Expr{Kind: api.ExBin, Op: api.OpAdd, Subs: []api.Expr{variable("a"), num(1)}}
	merge := api.Expr{Kind: api.ExMerge, Name: "w", Arms: []string{"Up", "false"}, Subs: []api.Expr{variable("m"), {Kind: api.ExBool, N: 1}}}
	again := call("g", variable("a"), variable("b"))
	again.N = 1
	node(t, l, api.Node{
		Name: "way_9",
		Ins:  []api.Decl{always("a"), b, w},
		Outs: []api.Decl{always("y"), z},
		Vars: []api.Decl{when("h", "c", "true"), k, m},
		Eqs:  []api.Eq{eq(plus, "y"), eq(again, "z", "h", "c"), eq(merge, "k"), eq(api.Expr{Kind: api.ExOld, Name: "a/b.7"}, "m"), eq(call("g"), "q", "r")},
	}, "node way_9(a: int; b: bool[2]; w: way) returns (y: int; z: hue[8])\n"+
		"var h: int when c; k: abcdefghijkl[1] when not c; m: bool when Up(w);\n"+
		"let\n"+
		"  y = (a + 1);\n"+
		"  z, h, c = (g(a) every b);\n"+
		"  k = (merge w (Up -> m) (false -> true));\n"+
		"  m = 'a/b.7';\n"+
		"  q, r = g();\n"+
		"tel\n")
}

// P13.1: no inputs, outputs, other variables and equations, one, as many as may be, and more.
func TestNodeCounts(t *testing.T) {
	for _, ins := range []int{0, 1, 2, 6, 7, 100} {
		for _, outs := range []int{0, 1, 2, 6, 7} {
			for _, vars := range []int{0, 1, 2, 12, 13, 500} {
				for _, some := range []int{0, 1, 2, 18, 19} {
					n := api.Node{Name: "f", Ins: decls("a", ins), Outs: decls("b", outs), Vars: decls("c", vars)}
					for i := range some {
						n.Eqs = append(n.Eqs, eq(num(int64(i)), fmt.Sprintf("d%d", i)))
					}
					want := "node f(" + joined(ins, "; ", "a%d: int") + ") returns (" + joined(outs, "; ", "b%d: int") + ")\n"
					if vars > 0 {
						want += "var " + joined(vars, "; ", "c%d: int") + ";\n"
					}
					want += "let\n" + joined(some, "", "  d%[1]d = %[1]d;\n") + "tel\n"
					if s := print.Node(nil, n); s != want {
						t.Fatalf("Node is\n%s\nand not\n%s", s, want)
					}
				}
			}
		}
	}
}

// P13.1: a node with as much of everything as may be is told whole.
func TestNodeFull(t *testing.T) {
	for i, n := range full().Nodes {
		want := fmt.Sprintf("node n%d(%s) returns (%s)\nvar v0: int when a0; v1: int when not v0; v2: int when Up(v1); v3: int when True(v2); "+
			"v4: int when v3; v5: int when not v4; v6: int when Up(v5); v7: int when True(v6); v8: int when v7; v9: int when not v8; v10: int when Up(v9); v11: int when True(v10);\nlet\n",
			i, joined(6, "; ", "a%d: int"), joined(6, "; ", "y%d: int"))
		for j, e := range rights()[:17] {
			want += fmt.Sprintf("  y%d = %s;\n", j, show.Expr(e))
		}
		want += "  " + joined(18, ", ", "y%d") + " = f(1);\ntel\n"
		node(t, enums(), n, want)
	}
}

// P13.1: equations of one name, of several, and of none, with expressions of all kinds; and the parts of expressions alone with their own brackets.
func TestNodeEqs(t *testing.T) {
	texts := []string{
		"0", "9223372036854775807", "true", "a", "Up", "'a/b.7'", "(not a)", "(a + 1)", "(if a then b else 1)", "(1 fby a)", "(1 -> b)", "(pre a)",
		"(a when Up(c))", "(merge c (true -> a) (false -> b))", "[a, b]", "a[1]", "(a with [1] = b)",
		strings.Repeat("(pre ", 11) + "a" + strings.Repeat(")", 11), show.Expr(wide(60)), "f()", "g(a, b)", "(h(a) every b)",
	}
	for i, e := range rights() {
		for _, l := range [][]string{nil, {"y"}, {"y", "z"}, {"z", "y", "z"}, names("y", 18), {""}, {"", ""}, {"abcdefghijkl", "Y", "a b"}} {
			want := "node f() returns ()\nlet\n  " + strings.Join(l, ", ") + " = " + texts[i] + ";\ntel\n"
			node(t, nil, api.Node{Name: "f", Eqs: []api.Eq{eq(e, l...)}}, want)
		}
	}
}

// P13.1: of an expression that is not right there is no text, at whichever place its equation stands.
func TestNodeOfWrongExpr(t *testing.T) {
	for _, e := range wrongs() {
		for at := range 3 {
			n := api.Node{Name: "f", Outs: decls("y", 1), Eqs: []api.Eq{eq(num(0), "a"), eq(num(1), "b"), eq(num(2), "c")}}
			texts := []string{"0", "1", "2"}
			n.Eqs[at].E, texts[at] = e, ""
			want := fmt.Sprintf("node f() returns (y0: int)\nlet\n  a = %s;\n  b = %s;\n  c = %s;\ntel\n", texts[0], texts[1], texts[2])
			if s := print.Node(nil, n); s != want {
				t.Fatalf("Node of %s is\n%s\nand not\n%s", cut(n), s, want)
			}
		}
	}
}

// P13.1: of a type that is not right there is no text, and of a Ctor that is no arm what On tells of it, wherever the variable stands.
func TestNodeOfWrongDecl(t *testing.T) {
	for _, u := range wrongTypes() {
		for at := range 6 {
			l := decls("a", 6)
			l[at].Ty = u
			texts := strings.Split(joined(6, "; ", "a%d: int"), "; ")
			texts[at] = fmt.Sprintf("a%d: ", at)
			want := fmt.Sprintf("node f(%s; %s) returns (%s; %s)\nvar %s; %s;\nlet\ntel\n", texts[0], texts[1], texts[2], texts[3], texts[4], texts[5])
			node(t, enums(), api.Node{Name: "f", Ins: l[:2:2], Outs: l[2:4:4], Vars: l[4:]}, want)
		}
	}
	for _, arm := range append(noArm(), "Up", "True") {
		d := when("h", "c", arm)
		on := "h: int when " + arm + "(c)"
		node(t, nil, api.Node{Name: "f", Ins: []api.Decl{d}, Outs: []api.Decl{d, d}, Vars: []api.Decl{d}}, "node f("+on+") returns ("+on+"; "+on+")\nvar "+on+";\nlet\ntel\n")
	}
}

// P13.1: enums are those that are handed in, and are told nowhere but in the types.
func TestNodeOfEnums(t *testing.T) {
	n := small().Nodes[0]
	for place := range 4 {
		n.Outs[0].Ty = of(api.KEnum, place, 3)
		for many := range 5 {
			name := "[3]"
			if place < many {
				name = enums()[place].Name + name
			} else {
				name = ""
			}
			node(t, enums()[:many], n, "node f() returns (y0: "+name+")\nlet\ntel\n")
		}
	}
}

// P13.1: a node's name is told as it is, of one byte, of as many as may be, and if it is none; so is a node of nothing.
func TestNodeNames(t *testing.T) {
	for _, name := range append(noLow(), "a", "abcdefghijkl", "a9_Z", "returns_") {
		node(t, nil, api.Node{Name: name, Outs: decls("y", 1)}, "node "+name+"() returns (y0: int)\nlet\ntel\n")
	}
	node(t, nil, api.Node{}, "node () returns ()\nlet\ntel\n")
	node(t, nil, api.Node{Ins: make([]api.Decl, 1), Outs: make([]api.Decl, 2), Vars: make([]api.Decl, 3), Eqs: make([]api.Eq, 2)},
		"node (: ) returns (: ; : )\nvar : ; : ; : ;\nlet\n   = ;\n   = ;\ntel\n")
}

// reckonedNode tells a node's lines from its pieces, in another way than the program does.
func reckonedNode(l []api.Enum, n api.Node) string {
	row := func(vars []api.Decl) string {
		s := ""
		for i := len(vars) - 1; i >= 0; i-- {
			s = "; " + print.Decl(l, vars[i]) + s
		}
		return s[min(2, len(s)):]
	}
	s := fmt.Sprintf("node %s(%s) returns (%s)\n", n.Name, row(n.Ins), row(n.Outs))
	if n.Vars != nil && len(n.Vars) != 0 {
		s += fmt.Sprintf("var %s;\n", row(n.Vars))
	}
	s += fmt.Sprintln("let")
	for _, q := range n.Eqs {
		left := ""
		for i, name := range q.Names {
			if i > 0 {
				left += ", "
			}
			left += name
		}
		s += fmt.Sprintf("  %s = %s;\n", left, show.Expr(q.E))
	}
	return s + fmt.Sprintln("tel")
}

// P13.1: what chance makes, right or not, is told as its pieces are.
func TestNodeByChance(t *testing.T) {
	r := rolled(41)
	for range 4000 {
		p := r.program()
		for _, n := range p.Nodes {
			want := reckonedNode(p.Enums, n)
			if s := print.Node(p.Enums, n); s != want {
				t.Fatalf("Node of %s is\n%s\nand not\n%s", cut(n), s, want)
			}
		}
	}
}

// P13.1: lists of a hundred thousand are told whole, and expressions that lie as deep are none.
func TestNodeLong(t *testing.T) {
	const many = 100000
	n := api.Node{Name: "f", Ins: decls("a", many), Outs: decls("b", many), Vars: decls("c", many), Eqs: []api.Eq{eq(nested(60000, num(1)), names("d", many)...)}}
	n.Eqs = append(n.Eqs, slices.Repeat([]api.Eq{eq(num(7), "e")}, many)...)
	want := fmt.Sprintf("node f(%s) returns (%s)\nvar %s;\nlet\n  %s = ;\n%stel\n",
		joined(many, "; ", "a%d: int"), joined(many, "; ", "b%d: int"), joined(many, "; ", "c%d: int"), joined(many, ", ", "d%d"), strings.Repeat("  e = 7;\n", many))
	if s := print.Node(nil, n); s != want {
		t.Fatalf("Node of long lists is another text, of %d bytes and not %d", len(s), len(want))
	}
}
