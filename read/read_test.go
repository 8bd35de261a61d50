package read_test

import (
	"fmt"
	"slices"
	"strings"
	"testing"

	"noria/api"
	"noria/parse"
)

// P14.1, P14.2: the chapter's example, and one with some of everything, field by field.
func TestExamples(t *testing.T) {
	reads(t, "node f(a: int) returns (b: int) let b = a; tel", api.Program{Nodes: []api.Node{{
		Name: "f",
		Ins:  []api.Decl{{Name: "a", Ty: api.Ty{Kind: api.KInt}}},
		Outs: []api.Decl{{Name: "b", Ty: api.Ty{Kind: api.KInt}}},
		Eqs:  []api.Eq{{Names: []string{"b"}, E: api.Expr{Kind: api.ExVar, Name: "a"}}},
	}}})
	reads(t, "enum way { Up, Down };enum e { E };\n"+
		"node g(w: way; u: bool[2]) returns (e: e[8]; y: int)\n"+
		"var h: int when Down(w); k: way[1] when not h;\n"+
		"let\n  h = 2;\n  e, y = f(0 fby y);\ntel\n"+
		"node f()returns(z:bool)let tel", api.Program{
		Enums: []api.Enum{{Name: "way", Ctors: []string{"Up", "Down"}}, {Name: "e", Ctors: []string{"E"}}},
		Nodes: []api.Node{{
			Name: "g",
			Ins:  []api.Decl{{Name: "w", Ty: api.Ty{Kind: api.KEnum}}, {Name: "u", Ty: api.Ty{Kind: api.KBool, Len: 2}}},
			Outs: []api.Decl{{Name: "e", Ty: api.Ty{Kind: api.KEnum, Enum: 1, Len: 8}}, {Name: "y", Ty: api.Ty{Kind: api.KInt}}},
			Vars: []api.Decl{
				{Name: "h", Ty: api.Ty{Kind: api.KInt}, On: "w", Ctor: "Down"},
				{Name: "k", Ty: api.Ty{Kind: api.KEnum, Len: 1}, On: "h", Ctor: "false"},
			},
			Eqs: []api.Eq{
				{Names: []string{"h"}, E: num(2)},
				{Names: []string{"e", "y"}, E: call("f", ex(api.ExFby, num(0), variable("y")))},
			},
		}, {
			Name: "f",
			Outs: []api.Decl{{Name: "z", Ty: api.Ty{Kind: api.KBool}}},
		}},
	})
}

// P14.1: no enums, one, and as many as may be, with one constructor and more; one more is refused in the end.
func TestEnums(t *testing.T) {
	texts := []string{
		"enum way { Up, Down, Left, Right, In, Out };\n",
		"enum hue{Red,Green,Blue,White,Black,Grey};",
		" enum abcdefghijkl { ABCDEFGHIJKL , M_0123456789 , N , O9 , P_ , Qq } ; ",
		"enum\nx9_\n{\nX\n,\nY\n,\nZ\n,\nX1\n,\nY1\n,\nZ1\n}\n;\n",
	}
	for many := range 5 {
		node := api.Node{Name: "f", Outs: decls("y", 1)}
		reads(t, strings.Join(texts[:many], "")+"node f() returns (y0: int) let tel", api.Program{Enums: enums()[:many], Nodes: []api.Node{node}})
	}
	for size := 1; size <= 7; size++ {
		ctors := names("C", size)
		s := "enum e { " + strings.Join(ctors, ", ") + " }; node f() returns (y0: e) let tel"
		if size > api.MaxCtors {
			refused(t, s, api.ErrMany)
			continue
		}
		out := api.Decl{Name: "y0", Ty: of(api.KEnum, 0, 0)}
		reads(t, s, api.Program{Enums: []api.Enum{enum("e", ctors...)}, Nodes: []api.Node{{Name: "f", Outs: []api.Decl{out}}}})
	}
	refused(t, strings.Join(texts, "")+"enum e { E }; node f() returns (y0: int) let tel", api.ErrMany)
	// A type may be of the one that is one too many: that is told of the enums alone.
	refused(t, strings.Join(texts, "")+"enum e { E }; node f() returns (y0: e[3]) let tel", api.ErrMany)
	refused(t, strings.Join(texts, "")+strings.Repeat("enum e { E };", 300)+"node f() returns (y0: e[3]) let tel", api.ErrMany)
}

// P14.1, P14.2: no nodes, one, as many as may be, and one more.
func TestNodes(t *testing.T) {
	var p api.Program
	s := ""
	for many := range 9 {
		switch {
		case many == 0:
			refused(t, s, api.ErrNone)
		case many > api.MaxNodes:
			refused(t, s, api.ErrMany)
		default:
			reads(t, s, p)
		}
		name := fmt.Sprint("f", 9-many)
		s += "node " + name + "() returns (y0: int) let tel\n"
		p.Nodes = append(p.Nodes, api.Node{Name: name, Outs: decls("y", 1)})
	}
	for _, s := range []string{"", " ", "\n\t\r ", "-- a", "--\n", "enum e { E };", "enum e { E }; -- node f() returns (y: int) let tel", "enum e { E }; enum f { F };\n"} {
		refused(t, s, api.ErrNone)
	}
}

// P14.1, P14.2: no inputs, outputs, other variables and equations, one, as many as may be, and one more.
func TestCounts(t *testing.T) {
	texts := func(first, behind string, n int) []string {
		var l []string
		for _, s := range names(first, n) {
			l = append(l, s+behind)
		}
		return l
	}
	ask := func(ins, outs, vars, eqs int) {
		t.Helper()
		s := "node f(" + strings.Join(texts("a", ": int", ins), "; ") + ") returns (" + strings.Join(texts("y", ":int", outs), ";") + ")"
		if vars > 0 {
			s += " var " + strings.Join(texts("v", ": int;", vars), " ")
		}
		s += " let " + strings.Join(texts("x", " = 1;", eqs), "\n") + " tel"
		if ins > api.MaxPorts || outs > api.MaxPorts || vars > api.MaxVars || eqs > api.MaxPorts+api.MaxVars {
			refused(t, s, api.ErrMany)
			return
		}
		n := api.Node{Name: "f", Ins: decls("a", ins), Outs: decls("y", outs), Vars: decls("v", vars)}
		for _, name := range names("x", eqs) {
			n.Eqs = append(n.Eqs, eq(num(1), name))
		}
		reads(t, s, api.Program{Nodes: []api.Node{n}})
	}
	for n := range 25 {
		ask(n, 1, 0, 0)
		ask(0, n+1, 1, 1)
		ask(1, 1, n, 2)
		ask(6, 6, 12, n)
	}
}

// P14.1: an equation of one name and of several; which of them may be is asked in the end.
func TestEqs(t *testing.T) {
	for many := 1; many < 40; many++ {
		l := names("y", many)
		n := api.Node{Name: "f", Outs: decls("y", 1)}
		n.Eqs = []api.Eq{eq(call("f"), l...), eq(call("g", num(1)), l...)}
		reads(t, "node f() returns (y0: int) let "+strings.Join(l, ", ")+" = f();"+strings.Join(l, ",")+"=g(1);tel", api.Program{Nodes: []api.Node{n}})
		if s := "node f() returns (y0: int) let y = 1; " + strings.Join(l, " , ") + " = f()[1]; tel"; many > 1 {
			refused(t, s, api.ErrArg)
		}
	}
}

// P14.1: each type, at each place at which one stands.
func TestTypes(t *testing.T) {
	l := enums()
	s := "enum way { Up, Down, Left, Right, In, Out }; enum hue { Red, Green, Blue, White, Black, Grey };\n" +
		"enum abcdefghijkl { ABCDEFGHIJKL, M_0123456789, N, O9, P_, Qq }; enum x9_ { X, Y, Z, X1, Y1, Z1 };\n"
	var types []api.Ty
	var texts []string
	for i, name := range strings.Fields("int bool way hue abcdefghijkl x9_") {
		ty := of(min(i+1, api.KEnum), max(i-2, 0), 0)
		types, texts = append(types, ty), append(texts, name)
		for length := 1; length <= 8; length++ {
			ty.Len = length
			types, texts = append(types, ty), append(texts, name+fmt.Sprintf([]string{"[%d]", " [ %d ] "}[length%2], length))
		}
	}
	other := func(i, by int) int { return (i + by) % len(types) }
	for i := range types {
		n := api.Node{Name: "f", Ins: decls("a", 2), Outs: decls("y", 2), Vars: []api.Decl{always("v0"), when("v1", "a0", "Up")}}
		for by, d := range []*api.Decl{&n.Ins[0], &n.Ins[1], &n.Outs[0], &n.Outs[1], &n.Vars[0], &n.Vars[1]} {
			d.Ty = types[other(i, by)]
		}
		reads(t, fmt.Sprintf("%snode f(a0: %s; a1: %s) returns (y0: %s; y1:%s) var v0: %s; v1: %s when Up(a0); let tel", s,
			texts[i], texts[other(i, 1)], texts[other(i, 2)], texts[other(i, 3)], texts[other(i, 4)], texts[other(i, 5)]), api.Program{Enums: l, Nodes: []api.Node{n}})
	}
}

// P14.1: the number of an array is from 1 to MaxArray, and stands alone in its brackets.
func TestLengths(t *testing.T) {
	l := strings.Split("]|]]|-1]|a]|A]|'a']|int]|[1]]|0x1]|01]|00]|9223372036854775808]", "|")
	for _, s := range strings.Fields("0 9 10 11 16 18 64 255 256 257 264 2147483647 2147483648 4294967295 4294967296 4294967297 4294967304 9223372036854775807") {
		l = append(l, s+"]", " "+s+" fby")
	}
	for i := range l {
		l[i] = "^" + l[i]
	}
	l = append(l, strings.Split("^|1^|1 ^1]|1^a]|1^, 1]|1^)|8 ^+ 0]|1]^[1]|1 ] ^[|1]^]", "|")...)
	for _, around := range []string{"node f(a: @) returns (y: int) let tel", "node f() returns (y: int; z: @) let tel", "node f() returns (y: int) var a: @ when c; let tel",
		"node f() returns (y: int[1]) let tel node g(a: int[8]) returns (y: @) let tel"} {
		for _, kind := range strings.Fields("int bool e") {
			for _, s := range l {
				wrong(t, "enum e { E }; "+strings.Replace(around, "@", kind+"["+s, 1), api.ErrText)
			}
		}
	}
}

// P14.1: what is there always, and what is there on each sort of arms.
func TestClocks(t *testing.T) {
	clocks := map[string]api.Decl{
		"":                                 {},
		" when c":                          {On: "c", Ctor: "true"},
		" when not c":                      {On: "c", Ctor: "false"},
		" when true(c)":                    {On: "c", Ctor: "true"},
		" when false ( c )":                {On: "c", Ctor: "false"},
		" when Up(c)":                      {On: "c", Ctor: "Up"},
		" when True(not_)":                 {On: "not_", Ctor: "True"},
		" when ABCDEFGHIJKL(abcdefghijkl)": {On: "abcdefghijkl", Ctor: "ABCDEFGHIJKL"},
	}
	for s, d := range clocks {
		for other, e := range clocks {
			d.Name, d.Ty = "v", of(api.KInt, 0, 0)
			e.Name, e.Ty = "w", of(api.KBool, 0, 3)
			n := api.Node{Name: "f", Outs: decls("y", 1), Vars: []api.Decl{d, e}}
			reads(t, "node f() returns (y0: int) var v: int"+s+"; w: bool[3]"+other+"; let tel", api.Program{Nodes: []api.Node{n}})
		}
		for _, around := range []string{"node f(a: int; b: int@) returns (y: int) let tel", "node f(b: int@) returns (y: int) let tel", "node f() returns (y: int@; z: int) let tel"} {
			text := strings.Replace(around, "@", s, 1)
			if s != "" {
				// An input, or an output, may be none with a clock: that is asked in the end.
				refused(t, text, api.ErrArg)
			} else if got := newGuide().askedText(text); got.err != api.OK {
				t.Errorf("%q is refused with %d", text, got.err)
			} else {
				reads(t, text, got.p)
			}
		}
	}
}

// P14.1: expressions of all kinds, at each place of an equation.
func TestExpressions(t *testing.T) {
	l := expressions()
	for i := range l {
		n := api.Node{Name: "f", Outs: decls("y", 1)}
		s := "node f() returns (y0: int) let"
		for by, name := range names("x", 3) {
			text := l[(i+by)%len(l)]
			e, _, err := parse.Expr(text)
			if err != api.OK {
				t.Fatalf("%q is no expression: %d", text, err)
			}
			n.Eqs = append(n.Eqs, eq(e, name))
			s += " " + name + " = " + text + ";"
		}
		m := n
		m.Name = "g"
		reads(t, s+" tel "+strings.Replace(s, " f(", " g(", 1)+" tel", api.Program{Nodes: []api.Node{n, m}})
	}
}

// P14.1: an enum's name is one that no variable or node takes away, and the other way about.
func TestOneNameForMany(t *testing.T) {
	e := of(api.KEnum, 0, 0)
	n := api.Node{Name: "e", Ins: []api.Decl{{Name: "e", Ty: e}}, Outs: []api.Decl{{Name: "f", Ty: e}}, Eqs: []api.Eq{eq(call("e", variable("e")), "f")}}
	m := api.Node{Name: "f", Outs: []api.Decl{{Name: "e", Ty: of(api.KEnum, 0, 2)}}, Eqs: []api.Eq{eq(api.Expr{Kind: api.ExCtor, Name: "E"}, "e")}}
	reads(t, "enum e { E }; node e(e: e) returns (f: e) let f = e(e); tel node f() returns (e: e[2]) let e = E; tel", api.Program{Enums: []api.Enum{enum("e", "E")}, Nodes: []api.Node{n, m}})
}

// P14.1: where a name, or a constructor, stands, all that lex tells as one may stand, and no word.
func TestNames(t *testing.T) {
	low := strings.Fields("a z a0 a_ aA abcdefghijkl nod nodes return let_ te enums ints boole truee fals withh whe note")
	for _, s := range low {
		n := api.Node{Name: s, Ins: []api.Decl{always(s)}, Outs: []api.Decl{always("y")}, Vars: []api.Decl{when("v", s, "true")}, Eqs: []api.Eq{eq(call(s, variable(s)), s, s)}}
		text := "node " + s + "(" + s + ": int) returns (y: int) var v: int when " + s + "; let " + s + ", " + s + " = " + s + "(" + s + "); tel"
		reads(t, text, api.Program{Nodes: []api.Node{n}})
		n.Ins[0].Ty = of(api.KEnum, 0, 0)
		reads(t, "enum "+s+" { A };"+strings.Replace(text, ": int)", ": "+s+")", 1), api.Program{Enums: []api.Enum{enum(s, "A")}, Nodes: []api.Node{n}})
	}
	for _, s := range slices.Concat(strings.Fields(words), strings.Fields("A Up 1 0 'a' ( ) { } [ ] , ; : = := -> < > <= >= <> + - * /")) {
		wrong(t, "enum ^"+s+" { A }; node f() returns (y: int) let tel", api.ErrText)
		wrong(t, "node ^"+s+" () returns (y: int) let tel", api.ErrText)
		wrong(t, "node f(a: int; ^"+s+" : int) returns (y: int) let tel", api.ErrText)
		wrong(t, "node f() returns (^"+s+" : int) let tel", api.ErrText)
		wrong(t, "node f() returns (y: int) var ^"+s+" : int; let tel", api.ErrText)
		wrong(t, "node f() returns (y: int) let y, ^"+s+" = f(); tel", api.ErrText)
		if s != ")" {
			wrong(t, "node f(^"+s+" : int) returns (y: int) let tel", api.ErrText)
		}
		if s != "let" {
			wrong(t, "node f() returns (y: int) var v: int; ^"+s+" : int; let tel", api.ErrText)
		}
		if s != "tel" {
			wrong(t, "node f() returns (y: int) let ^"+s+" = 1; tel", api.ErrText)
			wrong(t, "node f() returns (y: int) let y = 1; ^"+s+" = 1; tel", api.ErrText)
		}
		if !slices.Contains([]string{"A", "Up"}, s) {
			wrong(t, "enum e { ^"+s+" }; node f() returns (y: int) let tel", api.ErrText)
			wrong(t, "enum e { A, ^"+s+", B }; node f() returns (y: int) let tel", api.ErrText)
		}
		if !slices.Contains([]string{"int", "bool"}, s) {
			wrong(t, "enum e { A }; node f(a: ^"+s+") returns (y: int) let tel", api.ErrText)
		}
	}
	for _, s := range []string{"abcdefghijklm", "ABCDEFGHIJKLM", "abcdefghijkl_"} {
		wrong(t, "node ^"+s+"() returns (y: int) let tel", api.ErrText)
		wrong(t, "enum e { A, ^"+s+" }; node", api.ErrText)
	}
	for _, s := range low {
		wrong(t, "enum e { ^"+s+" }; node f() returns (y: int) let tel", api.ErrText)
	}
}

// P14.1: a type's name is that of an enum that stands ahead of it.
func TestTypeNames(t *testing.T) {
	for _, around := range []string{"node f(a: @) returns (y: int) let tel", "node f(a: int; b: @[2]) returns (y: int) let tel", "node f() returns (y: @[1]) let tel", "node f() returns (y: int; z: e) let tel node g() returns (y: @) let tel",
		"node f() returns (y: int) var v: @ when c; w: e; let tel", "node f() returns (y: int) var v: e; w: @[3] when Up(c); let tel"} {
		around = "enum e { E }; enum way { Up };" + around
		for _, s := range strings.Fields("d f g ee a b y v w wa ways ei int_ bool1 abcdefghijkl E Up 'e' 'way' 1 node true not let var enum ) [ ; when") {
			wrong(t, strings.Replace(around, "@", "^"+s, 1), api.ErrText)
			// One that comes behind it is not there yet, and may not stand there at all.
			wrong(t, strings.Replace(around, "@", "^"+s, 1)+" enum d { D }; enum f { F };", api.ErrText)
		}
		for _, s := range strings.Fields("e way") {
			text := strings.Replace(around, "@", s, 1)
			reads(t, text, newGuide().askedText(text).p)
		}
	}
	wrong(t, "node f(e: ^e) returns (y: int) let tel", api.ErrText)
	wrong(t, "node f(e: ^e) returns (y: int) let tel enum e { E };", api.ErrText)
	wrong(t, "enum d { E }; node f(e: ^e) returns (y: int) let tel", api.ErrText)
}
