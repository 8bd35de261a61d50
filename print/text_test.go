package print_test

import (
	"fmt"
	"math/rand/v2"
	"reflect"
	"slices"
	"strconv"
	"strings"
	"testing"

	"noria/api"
	"noria/print"
	"noria/prog"
)

// text holds what Text tells of p against want: with empty lists and with none; it changes nothing.
func text(t *testing.T, p api.Program, want string) {
	t.Helper()
	was := copied(p)
	for _, q := range []api.Program{p, none(p), empty(p), copied(p)} {
		if s := print.Text(q); s != want {
			t.Fatalf("Text of %s is\n%s\nand not\n%s", cut(p), s, want)
		}
	}
	if !reflect.DeepEqual(p, was) {
		t.Fatalf("Text has changed %s", cut(was))
	}
}

// refused asks that p is refused with that error, and has no text.
func refused(t *testing.T, p api.Program, e api.Errno) {
	t.Helper()
	if f := prog.Check(p); f != e {
		t.Fatalf("%s is refused with %d, not %d", cut(p), f, e)
	}
	text(t, p, "")
}

// reckoned tells p's text from the texts of its nodes, in another way than the program does.
func reckoned(p api.Program) string {
	if prog.Check(p) != api.OK {
		return ""
	}
	s := ""
	for i := range p.Enums {
		s += fmt.Sprintf("enum %s { ", p.Enums[i].Name)
		for j, name := range p.Enums[i].Ctors {
			s += name
			if j < len(p.Enums[i].Ctors)-1 {
				s += ", "
			}
		}
		s += fmt.Sprintln(" };")
	}
	for _, n := range p.Nodes {
		s += print.Node(p.Enums, n)
	}
	return s
}

// P13.2: the chapter's example, byte for byte.
func TestTextExample(t *testing.T) {
	text(t, example(), exampleText)
	text(t, small(), "node f() returns (y0: int)\nlet\ntel\n")
}

// P13.2: enums and nodes, byte for byte, the enums ahead.
func TestTextWhole(t *testing.T) {
	p := api.Program{Enums: []api.Enum{enum("way", "Up", "Down"), enum("e", "E"), enum("abcdefghijkl", "ABCDEFGHIJKL", "A_9", "B")}}
	w, e := always("w"), always("e")
	w.Ty, e.Ty = of(api.KEnum, 0, 0), of(api.KEnum, 2, 7)
	p.Nodes = []api.Node{
		{Name: "g", Ins: []api.Decl{w}, Outs: []api.Decl{e, always("y")}, Vars: []api.Decl{when("h", "w", "Down")}, Eqs: []api.Eq{eq(num(2), "h"), eq(call("f", num(1)), "e", "y")}},
		example().Nodes[0],
		{Name: "abcdefghijkl", Outs: []api.Decl{always("mnopqrstuvwx")}, Eqs: []api.Eq{eq(api.Expr{Kind: api.ExCtor, Name: "ABCDEFGHIJKL"}, "mnopqrstuvwx")}},
	}
	text(t, p, "enum way { Up, Down };\n"+
		"enum e { E };\n"+
		"enum abcdefghijkl { ABCDEFGHIJKL, A_9, B };\n"+
		"node g(w: way) returns (e: abcdefghijkl[7]; y: int)\n"+
		"var h: int when Down(w);\n"+
		"let\n"+
		"  h = 2;\n"+
		"  e, y = f(1);\n"+
		"tel\n"+
		exampleText+
		"node abcdefghijkl() returns (mnopqrstuvwx: int)\n"+
		"let\n"+
		"  mnopqrstuvwx = ABCDEFGHIJKL;\n"+
		"tel\n")
}

// P13.2: no enums, one, and as many as may be, with one constructor and with as many as may be.
func TestTextEnums(t *testing.T) {
	lines := []string{
		"enum way { Up, Down, Left, Right, In, Out };\n",
		"enum hue { Red, Green, Blue, White, Black, Grey };\n",
		"enum abcdefghijkl { ABCDEFGHIJKL, M_0123456789, N, O9, P_, Qq };\n",
		"enum x9_ { X, Y, Z, X1, Y1, Z1 };\n",
	}
	firsts := []string{"enum way { Up };\n", "enum hue { Red };\n", "enum abcdefghijkl { ABCDEFGHIJKL };\n", "enum x9_ { X };\n"}
	for many := range 5 {
		p, q := example(), example()
		p.Enums, q.Enums = enums()[:many], enums()[:many]
		for i := range q.Enums {
			q.Enums[i].Ctors = q.Enums[i].Ctors[:1]
		}
		text(t, p, strings.Join(lines[:many], "")+exampleText)
		text(t, q, strings.Join(firsts[:many], "")+exampleText)
	}
	p := example()
	p.Enums = enums()
	slices.Reverse(p.Enums)
	slices.Reverse(lines)
	text(t, p, strings.Join(lines, "")+exampleText)
}

// P13.2: one node, and as many as may be, in the order in which they stand; nothing stands between them.
func TestTextNodes(t *testing.T) {
	for many := 1; many <= 6; many++ {
		p := api.Program{}
		want := ""
		for i := many; i > 0; i-- {
			n := example().Nodes[0]
			n.Name += strconv.Itoa(i)
			p.Nodes = append(p.Nodes, n)
			want += strings.Replace(exampleText, "f", n.Name, 1)
		}
		text(t, p, want)
	}
	text(t, full(), reckoned(full()))
	text(t, roomy(), reckoned(roomy()))
}

// P13.2: a text is told whole, however long it is.
func TestTextLong(t *testing.T) {
	p := full()
	for i := range p.Nodes {
		for j := range p.Nodes[i].Eqs {
			p.Nodes[i].Eqs[j].E = wide(60)
			p.Nodes[i].Eqs[j].Names = p.Nodes[i].Eqs[j].Names[:1]
		}
	}
	if s := print.Text(p); len(s) <= 3*api.MaxText || s != reckoned(p) {
		t.Fatalf("Text is another one, of %d bytes", len(s))
	}
}

// P13.2: what is refused, with whichever error, has no text.
func TestTextOfRefused(t *testing.T) {
	refused(t, api.Program{}, api.ErrNone)
	refused(t, api.Program{Enums: enums()}, api.ErrNone)
	spoilt := func(e api.Errno, spoil func(p *api.Program, n *api.Node)) {
		t.Helper()
		for _, p := range []api.Program{full(), roomy()} {
			for at := range p.Nodes {
				q := copied(p)
				spoil(&q, &q.Nodes[at])
				refused(t, q, e)
			}
		}
	}
	for at := range 2 {
		spoilt(api.ErrArg, func(p *api.Program, n *api.Node) { p.Enums[at].Name = "Way" })
		spoilt(api.ErrArg, func(p *api.Program, n *api.Node) { p.Enums[at].Ctors = nil })
		spoilt(api.ErrArg, func(p *api.Program, n *api.Node) { p.Enums[at].Ctors[2] = "up" })
		spoilt(api.ErrMany, func(p *api.Program, n *api.Node) {
			p.Enums[at].Ctors = append(p.Enums[at].Ctors[:1], "A1", "A2", "A3", "A4", "A5", "A6")
		})
		spoilt(api.ErrThere, func(p *api.Program, n *api.Node) { p.Enums[at].Name = p.Enums[1-at].Name })
		spoilt(api.ErrThere, func(p *api.Program, n *api.Node) { p.Enums[at].Ctors[0] = p.Enums[1-at].Ctors[1] })
	}
	spoilt(api.ErrMany, func(p *api.Program, n *api.Node) {
		p.Enums = append(enums(), enum("more", "More"))
	})
	spoilt(api.ErrMany, func(p *api.Program, n *api.Node) {
		for i := 0; len(p.Nodes) < 7; i++ {
			m := example().Nodes[0]
			m.Name += strconv.Itoa(i)
			p.Nodes = append(p.Nodes, m)
		}
	})
	spoilt(api.ErrMany, func(p *api.Program, n *api.Node) { n.Ins = decls("b", 7) })
	spoilt(api.ErrMany, func(p *api.Program, n *api.Node) { n.Outs = decls("b", 7) })
	spoilt(api.ErrMany, func(p *api.Program, n *api.Node) { n.Vars = decls("b", 13) })
	spoilt(api.ErrMany, func(p *api.Program, n *api.Node) { n.Eqs = slices.Repeat(n.Eqs[:1], 19) })
	spoilt(api.ErrArg, func(p *api.Program, n *api.Node) { n.Name = "node" })
	spoilt(api.ErrArg, func(p *api.Program, n *api.Node) { n.Outs = nil })
	spoilt(api.ErrArg, func(p *api.Program, n *api.Node) { n.Ins[1].Name = "A" })
	spoilt(api.ErrArg, func(p *api.Program, n *api.Node) { n.Outs[1].Name = "abcdefghijklm" })
	spoilt(api.ErrArg, func(p *api.Program, n *api.Node) { n.Vars[1].Name = "" })
	spoilt(api.ErrArg, func(p *api.Program, n *api.Node) { n.Ins[1].Ty = api.Ty{} })
	spoilt(api.ErrArg, func(p *api.Program, n *api.Node) { n.Outs[0].Ty.Len = 9 })
	spoilt(api.ErrArg, func(p *api.Program, n *api.Node) { n.Vars[2].Ty = of(api.KEnum, 4, 0) })
	spoilt(api.ErrArg, func(p *api.Program, n *api.Node) { n.Ins[0].On, n.Ins[0].Ctor = "v0", "true" })
	spoilt(api.ErrArg, func(p *api.Program, n *api.Node) { n.Outs[1].On, n.Outs[1].Ctor = "v0", "true" })
	spoilt(api.ErrArg, func(p *api.Program, n *api.Node) { n.Vars[0].On = "" })
	spoilt(api.ErrArg, func(p *api.Program, n *api.Node) { n.Vars[0].Ctor = "" })
	spoilt(api.ErrArg, func(p *api.Program, n *api.Node) { n.Vars[0].Ctor = "up" })
	spoilt(api.ErrArg, func(p *api.Program, n *api.Node) { n.Vars[0].On = "Up" })
	spoilt(api.ErrArg, func(p *api.Program, n *api.Node) { n.Eqs[1].Names = nil })
	spoilt(api.ErrArg, func(p *api.Program, n *api.Node) { n.Eqs[1].Names[0] = "y " })
	spoilt(api.ErrArg, func(p *api.Program, n *api.Node) { n.Eqs[1].Names = []string{"y0", "y1"} })
	spoilt(api.ErrArg, func(p *api.Program, n *api.Node) { n.Eqs[2].E = api.Expr{} })
	for _, e := range wrongs() {
		p := roomy()
		p.Nodes[1].Eqs[1].E = e
		if print.Text(p) != "" {
			t.Fatalf("%s has a text", cut(p))
		}
	}
	spoilt(api.ErrThere, func(p *api.Program, n *api.Node) { n.Ins[0].Name = n.Ins[1].Name })
	spoilt(api.ErrThere, func(p *api.Program, n *api.Node) { n.Outs[0].Name = n.Ins[1].Name })
	spoilt(api.ErrThere, func(p *api.Program, n *api.Node) { n.Vars[1].Name = n.Outs[1].Name })
	spoilt(api.ErrThere, func(p *api.Program, n *api.Node) {
		p.Nodes[0].Name = n.Name
		p.Nodes[1].Name = n.Name
	})
}

// P13.2: what chance makes is told as its enums and nodes are, or not at all, if it is refused.
func TestTextByChance(t *testing.T) {
	r := rolled(42)
	told, not := 0, 0
	for range 3000 {
		p := r.program()
		want := reckoned(p)
		if s := print.Text(p); s != want {
			t.Fatalf("Text of %s is\n%s\nand not\n%s", cut(p), s, want)
		}
		if want == "" {
			not++
		} else {
			told++
		}
	}
	if told < 500 || not < 200 {
		t.Fatalf("%d have a text, %d have none", told, not)
	}
}

// dice makes programs of parts that chance tells.
type dice struct {
	*rand.Rand
	odd            bool // whether some parts are wrong
	fresh          int  // how many names there are so far
	rights, wrongs []api.Expr
}

// rolled are dice for many programs.
func rolled(seed uint64) *dice {
	return &dice{Rand: rand.New(rand.NewPCG(13, seed)), rights: rights(), wrongs: wrongs()}
}

// rare tells, where some parts are wrong, whether this one is: one of n.
func (r *dice) rare(n int) bool {
	return r.odd && r.IntN(n) == 0
}

// pick tells one of these, seldom a wrong one.
func (r *dice) pick(right, wrong []string) string {
	if r.rare(40) {
		right = wrong
	}
	return right[r.IntN(len(right))]
}

func (r *dice) name() string {
	r.fresh++
	if r.rare(40) {
		return "a1"
	}
	return r.pick([]string{"a" + strconv.Itoa(r.fresh), fmt.Sprintf("abcdefgh%04d", r.fresh)}, noLow())
}

func (r *dice) decl(on bool) api.Decl {
	d := api.Decl{Name: r.name(), Ty: of(1+r.IntN(2), 0, r.IntN(9))}
	if r.rare(40) {
		d.Ty = of(r.IntN(5), r.IntN(4)-1, r.IntN(11)-1)
	}
	if on && r.IntN(2) == 0 || r.rare(50) {
		d.On, d.Ctor = r.pick([]string{"a", "b"}, noLow()), r.pick([]string{"Up", "true", "false"}, noArm())
	}
	return d
}

func (r *dice) decls(n int, on bool) []api.Decl {
	var l []api.Decl
	for range n {
		l = append(l, r.decl(on))
	}
	return l
}

func (r *dice) eq() api.Eq {
	q := eq(r.rights[r.IntN(len(r.rights))], r.name())
	if q.E.Kind == api.ExCall {
		for range r.IntN(4) {
			q.Names = append(q.Names, r.name())
		}
	}
	if r.rare(40) {
		q.Names = append(q.Names, r.name())[r.IntN(2)*2:]
	}
	if r.rare(60) {
		q.E = r.wrongs[r.IntN(len(r.wrongs))]
	}
	return q
}

func (r *dice) node(enums int) api.Node {
	n := api.Node{Name: r.name(), Ins: r.decls(r.IntN(7), false), Outs: r.decls(1+r.IntN(6), false), Vars: r.decls(r.IntN(13)*r.IntN(2), true)}
	for _, l := range [][]api.Decl{n.Ins, n.Outs, n.Vars} {
		for i := range l {
			if enums > 0 && r.IntN(3) == 0 {
				l[i].Ty = of(api.KEnum, r.IntN(enums), r.IntN(9))
			}
		}
	}
	for range r.IntN(19) {
		n.Eqs = append(n.Eqs, r.eq())
	}
	return n
}

// program makes a program; most of them may be.
func (r *dice) program() api.Program {
	r.odd, r.fresh = r.IntN(4) == 0, 0
	p := api.Program{Enums: enums()[:r.IntN(5)]}
	for i := range p.Enums {
		p.Enums[i].Ctors = p.Enums[i].Ctors[:1+r.IntN(6)]
	}
	for range 1 + r.IntN(6) {
		p.Nodes = append(p.Nodes, r.node(len(p.Enums)))
	}
	return p
}
