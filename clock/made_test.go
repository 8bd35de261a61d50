package clock_test

import (
	"fmt"
	"reflect"
	"slices"
	"strconv"
	"strings"
	"testing"

	"noria/api"
	"noria/clock"
	"noria/expr"
	"noria/parse"
	"noria/read"
)

// ways are enums with one constructor, with a few, and with as many as may be.
const ways = `
enum way { Up, Down, Left };
enum hue { Red, Green, Blue, White, Black, Grey };
enum one { Only };
`

// yard is a program with which nothing is wrong. Its last node has as many others as may be, on the empty clock none, on rows of one condition, of two and of three the others; nodes of no, one and two inputs stand ahead.
const yard = ways + `
node none() returns (y: int) let y = 1; tel
node half(a: int) returns (y: int) let y = a; tel
node both(a: int; c: bool) returns (y: int; z: bool) let y = a; z = c; tel
node main(i: int; b: bool; w: way; t: int[2]; u: one; a: int) returns (y: int; z: bool; v: way; x: int)
var c: bool when b; h: int when b; m: way when b;
	k: int when not b; d: bool when not b;
	l: int when Up(w); g: bool when Up(w); n: int when Left(v);
	o: int when not c; p: bool when not c;
	r: int when Down(m); s: int when p;
let
	c = z when b;
	h = i when b;
	m = w when b;
	k = 1 fby k;
	d = not (b when not b);
	l = pre (i when Up(w));
	g = true;
	n = half(i when Left(v)) every (b when Left(v));
	o, p = both(-(h when not c), p) every (c when not c);
	r = (h when Down(m)) -> 2;
	s = [o, 1][o] when p;
	y = merge b (true -> merge c (true -> h when c) (false -> o)) (false -> k);
	x, z = both(none() + a, i = a);
	v = merge w (Up -> w when Up(w)) (Down -> Up) (Left -> if b when Left(w) then Up else Left);
tel
`

// main is the place of main in yard.
const main = 3

// never is the clock of what is there on none, ever that of what is there on each.
const (
	never = "never"
	ever  = "ever"
)

// program reads a text of a program that prog.Check lets be.
func program(t *testing.T, s string) api.Program {
	t.Helper()
	p, n, err := read.Program(s)
	if err != api.OK {
		t.Fatalf("%.1000q is refused at %d: %d", s, n, err)
	}
	return p
}

// expression reads a text of a right expression.
func expression(t *testing.T, s string) api.Expr {
	t.Helper()
	e, n, err := parse.Expr(s)
	if err != api.OK {
		t.Fatalf("%.1000q is refused at %d: %d", s, n, err)
	}
	return e
}

// number makes an expression of a number.
func number(n int64) api.Expr {
	return api.Expr{Kind: api.ExNum, N: n}
}

// named makes an expression of a kind that has a name, with arms and parts.
func named(kind int, name string, arms []string, subs ...api.Expr) api.Expr {
	return api.Expr{Kind: kind, Name: name, Arms: arms, Subs: subs}
}

// variable makes an expression of a variable.
func variable(name string) api.Expr {
	return named(api.ExVar, name, nil)
}

// when makes an expression that is there where a variable has the value of an arm.
func when(name, arm string, e api.Expr) api.Expr {
	return named(api.ExWhen, name, []string{arm}, e)
}

// over makes an expression of a kind that has nothing but parts.
func over(kind int, subs ...api.Expr) api.Expr {
	return api.Expr{Kind: kind, Subs: subs}
}

// call makes a call; with something that resets it, if there is one.
func call(node string, args []api.Expr, resets ...api.Expr) api.Expr {
	return api.Expr{Kind: api.ExCall, Name: node, N: int64(len(resets)), Subs: slices.Concat(args, resets)}
}

// own are the variables of a node.
func own(n api.Node) []api.Decl {
	return slices.Concat(n.Ins, n.Outs, n.Vars)
}

// text tells a clock: each condition with a semicolon behind.
func text(on []api.Cond) string {
	var s strings.Builder
	for _, c := range on {
		s.WriteString(c.Var + "=" + strconv.FormatInt(c.Val, 10) + ";")
	}
	return s.String()
}

// conds makes a clock of its text.
func conds(t *testing.T, s string) []api.Cond {
	t.Helper()
	var on []api.Cond
	for c := range strings.SplitSeq(s, ";") {
		if c == "" {
			continue
		}
		name, val, _ := strings.Cut(c, "=")
		n, err := strconv.ParseInt(val, 10, 64)
		if err != nil {
			t.Fatalf("%q is no clock", s)
		}
		on = append(on, api.Cond{Var: name, Val: n})
	}
	return on
}

// valued is the value of an arm, as a text; never, if there is none.
func valued(l []api.Enum, arm string) string {
	if i := slices.Index([]string{"false", "true"}, arm); i >= 0 {
		return strconv.Itoa(i)
	}
	for _, e := range l {
		if i := slices.Index(e.Ctors, arm); i >= 0 {
			return strconv.Itoa(i)
		}
	}
	return never
}

// rowed tells by texts alone the clock of a variable; never, if it has none.
func rowed(p api.Program, node int, name string) string {
	s := ""
	all := own(p.Nodes[node])
	for n := 0; n <= api.MaxVars; n++ {
		i := slices.IndexFunc(all, func(d api.Decl) bool { return d.Name == name })
		if i < 0 {
			return never
		}
		d := all[i]
		if d.On == "" {
			return s
		}
		val := valued(p.Enums, d.Ctor)
		if val == never {
			return never
		}
		s = d.On + "=" + val + ";" + s
		name = d.On
	}
	return never
}

// reckoned tells by texts alone on which clock e is there: it goes from the parts up, and makes the clock of what it finds.
func reckoned(p api.Program, node int, e api.Expr) string {
	row := rowed(p, node, e.Name)
	with := func(arm string) string {
		if row == never || valued(p.Enums, arm) == never {
			return never
		}
		return row + e.Name + "=" + valued(p.Enums, arm) + ";"
	}
	var l []string
	for _, s := range e.Subs {
		l = append(l, reckoned(p, node, s))
	}
	switch e.Kind {
	case api.ExNum, api.ExBool, api.ExCtor:
		return ever
	case api.ExVar:
		return row
	case api.ExOld:
		return never
	case api.ExFby:
		return l[1]
	case api.ExWhen:
		if joined(row, l[0]) == never {
			return never
		}
		return with(e.Arms[0])
	case api.ExMerge:
		for i, arm := range e.Arms {
			if joined(with(arm), l[i]) == never {
				return never
			}
		}
		return row
	}
	return joined(append(l, ever)...)
}

// joined is the clock on which all of some are there that are there on these.
func joined(l ...string) string {
	s := ever
	for _, u := range l {
		switch {
		case s == ever:
			s = u
		case u != ever && u != s:
			return never
		}
	}
	return s
}

// nearby are the clock of that text, and those that differ from it by one condition, or by their order.
func nearby(t *testing.T, s string) [][]api.Cond {
	t.Helper()
	on := conds(t, s)
	l := [][]api.Cond{on}
	put := func(i int, c ...api.Cond) {
		l = append(l, slices.Insert(slices.Clone(on), i, c...))
	}
	for i, c := range on {
		l = append(l, slices.Delete(slices.Clone(on), i, i+1))
		put(i, c)
		for _, d := range []api.Cond{{Var: c.Var, Val: c.Val + 1}, {Var: c.Var, Val: c.Val - 1}, {Var: c.Var, Val: 1 - c.Val}, {Var: "w", Val: c.Val}, {Var: c.Var + "x", Val: c.Val}, {Val: c.Val}, {Var: c.Var}} {
			other := slices.Clone(on)
			other[i] = d
			l = append(l, other)
		}
		for j := range i {
			other := slices.Clone(on)
			other[i], other[j] = other[j], other[i]
			l = append(l, other)
		}
	}
	for i := range len(on) + 1 {
		for _, c := range []api.Cond{{}, {Var: "b", Val: 1}, {Var: "b"}, {Var: "c", Val: 0}, {Var: "w", Val: 2}, {Var: "nope", Val: 1}} {
			put(i, c)
		}
	}
	return l
}

// clocks are those of all variables of a node, each once.
func clocks(p api.Program, node int) []string {
	l := []string{""}
	for _, d := range own(p.Nodes[node]) {
		if s := rowed(p, node, d.Name); s != never {
			l = append(l, s)
		}
	}
	slices.Sort(l)
	return slices.Compact(l)
}

// fits holds what Fits tells of e in a node on a clock against want; and that it leaves all as it is.
func fits(t *testing.T, p api.Program, node int, e api.Expr, on []api.Cond, want bool) {
	t.Helper()
	before, was := text(on), copied(e)
	// What stands behind the clock's end in its memory is somebody else's.
	behind := append(slices.Clone(on), api.Cond{Var: "behind", Val: 7}, api.Cond{Var: "behind", Val: 8})
	on = behind[:len(on)]
	for range 2 {
		if got := clock.Fits(p, node, e, on); got != want {
			t.Fatalf("Fits is %v in the node %d on %q, of %s", got, node, before, cut(e))
		}
	}
	if text(behind) != before+"behind=7;behind=8;" || !expr.Same(e, was) {
		t.Fatalf("Fits has changed %s, of %s, or %s", before, text(behind), cut(was))
	}
}

// there holds what Fits tells of e on all clocks of a node's variables, on these, and on what is near them against the one on which it is there.
func there(t *testing.T, p api.Program, node int, e api.Expr, want string) {
	t.Helper()
	all := append(clocks(p, node), "b=1;c=0;", "w=2;")
	if want != never && want != ever {
		all = append(all, want)
	}
	for _, s := range all {
		for _, on := range nearby(t, s) {
			fits(t, p, node, e, on, want == ever || want == text(on))
		}
	}
}

// row holds what Row tells of a variable against its text.
func row(t *testing.T, p api.Program, node int, name, want string) {
	t.Helper()
	for range 2 {
		on, ok := clock.Row(p, node, name)
		if ok != (want != never) || ok && text(on) != want || !ok && len(on) > 0 {
			t.Fatalf("Row of %q is %q, %v, not %q in the node %d of %s", name, text(on), ok, want, node, cut(p))
		}
	}
}

// copied is e, with lists of its own.
func copied(e api.Expr) api.Expr {
	e.Arms, e.Subs = slices.Clone(e.Arms), slices.Clone(e.Subs)
	for i, s := range e.Subs {
		e.Subs[i] = copied(s)
	}
	return e
}

// fault makes a fault.
func fault(node, eq int, err api.Errno) api.Fault {
	return api.Fault{Node: node, Eq: eq, Err: err}
}

// untimely is the fault of what has a wrong clock.
func untimely(node, eq int) api.Fault {
	return fault(node, eq, api.ErrClock)
}

// fine is what Check tells of a program with which nothing is wrong.
func fine() api.Fault {
	return api.Fault{}
}

// check holds what Check tells of p against want: as it is handed in, with nothing in the place of empty lists, and with empty lists in the place of nothing; and that it leaves p as it is.
func check(t *testing.T, what string, p api.Program, want api.Fault) {
	t.Helper()
	as := fmt.Sprintf("%+v", p)
	answers(t, what, p, want)
	for _, lists := range []func(reflect.Value){none, empty} {
		each(&p, lists)
		answers(t, what, p, want)
	}
	if fmt.Sprintf("%+v", p) != as {
		t.Fatalf("%s: Check has changed %s", what, as)
	}
}

// answers holds what Check tells of p against want.
func answers(t *testing.T, what string, p api.Program, want api.Fault) {
	t.Helper()
	if f := clock.Check(p); f != want {
		t.Fatalf("%s: Check is %+v, not %+v: %s", what, f, want, cut(p))
	}
}

// tells holds what Check tells of a text against want.
func tells(t *testing.T, s string, want api.Fault) {
	t.Helper()
	check(t, s, program(t, s), want)
}

// each goes through all fields and items of p, a list ahead of what is in it.
func each(p *api.Program, do func(reflect.Value)) {
	inside(reflect.ValueOf(p).Elem(), do)
}

func inside(v reflect.Value, do func(reflect.Value)) {
	do(v)
	switch v.Kind() {
	case reflect.Struct:
		for i := range v.NumField() {
			inside(v.Field(i), do)
		}
	case reflect.Slice:
		for i := range v.Len() {
			inside(v.Index(i), do)
		}
	}
}

// none puts nothing in the place of an empty list.
func none(v reflect.Value) {
	if v.Kind() == reflect.Slice && v.Len() == 0 {
		v.SetZero()
	}
}

// empty puts an empty list in the place of nothing.
func empty(v reflect.Value) {
	if v.Kind() == reflect.Slice && v.IsNil() {
		v.Set(reflect.MakeSlice(v.Type(), 0, 2))
	}
}

// cut is the beginning of all that is in something, as a text.
func cut(p any) string {
	s := fmt.Sprintf("%+v", p)
	return s[:min(len(s), 1500)]
}

// put is e with its part at a place exchanged for what is made of it.
func put(e api.Expr, at int, other func(api.Expr) api.Expr) api.Expr {
	var within func(api.Expr) api.Expr
	within = func(e api.Expr) api.Expr {
		at--
		if at == -1 {
			return other(e)
		}
		e.Subs = slices.Clone(e.Subs)
		for i, s := range e.Subs {
			e.Subs[i] = within(s)
		}
		return e
	}
	return within(e)
}
