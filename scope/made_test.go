package scope_test

import (
	"fmt"
	"reflect"
	"slices"
	"strconv"
	"strings"
	"testing"

	"noria/api"
	"noria/prog"
	"noria/read"
	"noria/scope"
)

// town is a program in which all names lead somewhere, with each kind of expression; its types and clocks go together only in part, as nobody asks that here.
const town = `
enum way { Up, Down, Left };
enum hue { Red, Green };
node f(a: int; c: bool) returns (y: int; z: bool)
var h: int when c; k: int when not c;
let
	h = a when c;
	y = merge c (true -> h) (false -> k);
	k = 1 when not c;
	z = not c;
tel
node g(m: way; e: hue; t: int[2]) returns (y: way; o: int)
var l: int when Up(m); n: int when Green(e); s: bool; q: int when s; r: int when false(r); v: int when Down(y);
let
	s, r = f(n, true);
	l = (1 fby o) when Up(m);
	y = Left fby y;
	v = 2 when Down(y);
	n, o = f(l, false) every s;
	q = (pre o) when s;
tel
node main(a: int; c: bool; m: way; e: hue; t: int[2]) returns (y: int; b: way)
var d: bool; u: int; v: int when Left(w); w: way; x: int;
let
	y, d = f(a, c);
	b, u = g(m, e, t) every d;
	w = if not c then -1 fby -a else ([Up, Red] fby (t with [a] = merge m (Up -> pre a) (Down -> a -> true) (Left -> f(a when Green(e), [a, 2][0]) every c)));
	x = 3 + a;
	v = x when Left(w);
tel
`

// program reads a text of a program that prog.Check lets be.
func program(t *testing.T, s string) api.Program {
	t.Helper()
	p, n, err := read.Program(s)
	if err != api.OK {
		t.Fatalf("%.1000q is refused at %d: %d", s, n, err)
	}
	return p
}

// fault makes a fault.
func fault(node, eq int, err api.Errno) api.Fault {
	return api.Fault{Node: node, Eq: eq, Err: err}
}

// refused is the fault of what prog.Check refuses.
func refused(err api.Errno) api.Fault {
	return fault(0, -1, err)
}

// fine is what Check tells of a program with which nothing is wrong.
func fine() api.Fault {
	return api.Fault{}
}

// check holds what Check tells of p against want: as it is handed in, with nothing in the place of empty lists, and with empty lists in the place of nothing; and that it leaves p as it is.
func check(t *testing.T, what string, p api.Program, want api.Fault) {
	t.Helper()
	as := whole(p)
	answers(t, what, p, want)
	for _, lists := range []func(reflect.Value){none, empty} {
		each(&p, lists)
		answers(t, what, p, want)
	}
	if whole(p) != as {
		t.Fatalf("%s: Check has changed %s", what, as)
	}
}

// answers holds what Check tells of p against want; what it lets be has to keep the laws.
func answers(t *testing.T, what string, p api.Program, want api.Fault) {
	t.Helper()
	if f := scope.Check(p); f != want {
		t.Fatalf("%s: Check is %+v, not %+v: %s", what, f, want, cut(p))
	}
	if want == fine() {
		laws(t, what, p)
	}
}

// tells holds what Check tells of a text against want.
func tells(t *testing.T, s string, want api.Fault) {
	t.Helper()
	check(t, s, program(t, s), want)
}

// each goes through all fields and items of p, a list ahead of what is in it.
func each(p *api.Program, do func(reflect.Value)) {
	inside(reflect.ValueOf(p).Elem(), do)
}

func inside(v reflect.Value, do func(reflect.Value)) {
	do(v)
	switch v.Kind() {
	case reflect.Struct:
		for i := range v.NumField() {
			inside(v.Field(i), do)
		}
	case reflect.Slice:
		for i := range v.Len() {
			inside(v.Index(i), do)
		}
	}
}

// none puts nothing in the place of an empty list.
func none(v reflect.Value) {
	if v.Kind() == reflect.Slice && v.Len() == 0 {
		v.SetZero()
	}
}

// empty puts an empty list in the place of nothing.
func empty(v reflect.Value) {
	if v.Kind() == reflect.Slice && v.IsNil() {
		v.Set(reflect.MakeSlice(v.Type(), 0, 2))
	}
}

// whole is all that is in p, as a text.
func whole(p api.Program) string {
	return fmt.Sprintf("%+v", p)
}

// cut is the beginning of that.
func cut(p any) string {
	s := fmt.Sprintf("%+v", p)
	return s[:min(len(s), 1000)]
}

// names makes n names that begin as the first one says.
func names(first string, n int) []string {
	var l []string
	for i := range n {
		l = append(l, first+strconv.Itoa(i))
	}
	return l
}

// joined are the texts of all of l, each made of its own.
func joined(l []string, between string, text func(int, string) string) string {
	var texts []string
	for i, s := range l {
		texts = append(texts, text(i, s))
	}
	return strings.Join(texts, between)
}

// full is the text of a program with as much of everything as may be.
func full() string {
	as, ys, vs := names("a", 6), names("y", 6), names("v", 12)
	ints := func(_ int, s string) string { return s + ": int" }
	s := "enum way { Up, Down, Left, Right, In, Out }; enum hue { Red, Green, Blue, White, Black, Grey }; " +
		"enum abcdefghijkl { A, B, C, D, E, ABCDEFGHIJKL }; enum x9 { X, Y, Z, X1, Y1, Z1 }; "
	for k := range 6 {
		s += "node n" + strconv.Itoa(k) + "(" + joined(as, "; ", ints) + ") returns (" + joined(ys, "; ", ints) + ") var " +
			joined(vs, "", func(i int, s string) string {
				arms := []string{"true", "false", "Up", "Z1", "ABCDEFGHIJKL"}
				return s + ": int when " + arms[i%5] + "(" + slices.Concat(vs, as, ys)[(i*7+k)%24] + "); "
			}) + "let "
		if k%2 == 1 {
			s += strings.Join(slices.Concat(vs, ys), ", ") + " = n" + strconv.Itoa(k-1) + "(" + strings.Join(as, ", ") + ") every v11; "
		} else {
			s += joined(slices.Concat(ys, vs), "", func(i int, s string) string { return s + " = " + as[i%6] + " + Z1; " })
		}
		s += "tel "
	}
	return s
}

// calls tells the names of the nodes that a node calls.
func calls(n api.Node) []string {
	var l []string
	var within func(api.Expr)
	within = func(e api.Expr) {
		if e.Kind == api.ExCall {
			l = append(l, e.Name)
		}
		for _, s := range e.Subs {
			within(s)
		}
	}
	for _, q := range n.Eqs {
		within(q.E)
	}
	return l
}

// laws holds a program that Check lets be against P15.3.
func laws(t *testing.T, what string, p api.Program) {
	t.Helper()
	for _, n := range p.Nodes {
		defined := map[string]int{}
		for _, q := range n.Eqs {
			for _, s := range q.Names {
				defined[s]++
			}
		}
		for _, d := range slices.Concat(n.Outs, n.Vars) {
			if defined[d.Name] != 1 {
				t.Fatalf("%s: %s is defined %d times: %s", what, d.Name, defined[d.Name], cut(p))
			}
			delete(defined, d.Name)
		}
		if len(defined) > 0 {
			t.Fatalf("%s: %v are defined: %s", what, defined, cut(p))
		}
	}
	for i := range p.Nodes {
		if round(p, i) {
			t.Fatalf("%s: the node %d calls itself: %s", what, i, cut(p))
		}
	}
}

// round tells whether a node calls itself, however far round, or one that is not there.
func round(p api.Program, node int) bool {
	seen := make([]bool, len(p.Nodes))
	next := []int{node}
	for len(next) > 0 {
		n := p.Nodes[next[0]]
		next = next[1:]
		for _, s := range calls(n) {
			i := prog.Find(p, s)
			if i < 0 || i == node {
				return true
			}
			if !seen[i] {
				seen[i] = true
				next = append(next, i)
			}
		}
	}
	return false
}
