package types_test

import (
	"fmt"
	"reflect"
	"slices"
	"strings"
	"testing"

	"noria/api"
	"noria/expr"
	"noria/parse"
	"noria/prog"
	"noria/read"
	"noria/ty"
	"noria/types"
)

// ways are as many enums as may be, with one constructor, with a few, and with as many as may be.
const ways = `
enum way { Up, Down, Left };
enum hue { Red, Green, Blue, White, Black, Grey };
enum one { Only };
enum last { Zero, Last };
`

// bench is a program of as many nodes as may be. In the one at the place 4 there is a variable of each kind of type, without Len, with 1, and with MaxArray, among its inputs, its outputs, and its others; nodes of none, one and six inputs, and of one output and of two, stand around it.
const bench = ways + `
node none() returns (y: int) let tel
node neg(a: int) returns (y: bool) let tel
node six(a: int; b: bool; c: way; d: last; e: int[2]; f: bool[8]) returns (y: way[3]) let tel
node pair(a: way) returns (y: int; z: int) let tel
node main(i: int; b: bool; w: way; z: last; i1: int[1]; i8: int[8])
returns (b1: bool[1]; b8: bool[8]; w1: way[1]; w8: way[8]; z1: last[1]; z8: last[8])
var j: int when b; c: bool when Up(w); v: way when not c; x: last; h: hue when Last(z); o: one; h1: hue[1]; h8: hue[8]; i2: int[2]; b2: bool[2]; w3: way[3]; o1: one[1];
let tel
node tail(i: bool; b: way; w: int[3]) returns (z: hue; j: last[2]) var only: one; y: bool[4]; let tel
`

// main is the place of main in bench.
const main = 4

// program reads a text of a program that prog.Check lets be.
func program(t *testing.T, s string) api.Program {
	t.Helper()
	p, n, err := read.Program(s)
	if err != api.OK {
		t.Fatalf("%.1000q is refused at %d: %d", s, n, err)
	}
	return p
}

// expression reads a text of a right expression.
func expression(t *testing.T, s string) api.Expr {
	t.Helper()
	e, n, err := parse.Expr(s)
	if err != api.OK {
		t.Fatalf("%.1000q is refused at %d: %d", s, n, err)
	}
	return e
}

// enum makes an enum.
func enum(name string, ctors ...string) api.Enum {
	return api.Enum{Name: name, Ctors: ctors}
}

// number makes an expression of a number, also of one below 0, which is not right.
func number(n int64) api.Expr {
	return api.Expr{Kind: api.ExNum, N: n}
}

// truth makes an expression of a truth.
func truth(n int64) api.Expr {
	return api.Expr{Kind: api.ExBool, N: n}
}

// named makes an expression of a kind that has a name, with arms and parts.
func named(kind int, name string, arms []string, subs ...api.Expr) api.Expr {
	return api.Expr{Kind: kind, Name: name, Arms: arms, Subs: subs}
}

// variable makes an expression of a variable.
func variable(name string) api.Expr {
	return named(api.ExVar, name, nil)
}

// ctor makes an expression of a constructor.
func ctor(name string) api.Expr {
	return named(api.ExCtor, name, nil)
}

// over makes an expression of a kind that has nothing but parts.
func over(kind int, subs ...api.Expr) api.Expr {
	return api.Expr{Kind: kind, Subs: subs}
}

// operated makes an expression of an operator: of one side, or of two.
func operated(op int, subs ...api.Expr) api.Expr {
	return api.Expr{Kind: [...]int{api.ExUn, api.ExBin}[len(subs)-1], Op: op, Subs: subs}
}

// call makes a call; with something that resets it, if there is one.
func call(node string, args []api.Expr, resets ...api.Expr) api.Expr {
	return api.Expr{Kind: api.ExCall, Name: node, N: int64(len(resets)), Subs: slices.Concat(args, resets)}
}

// is holds what Of tells of e in a node against a type's text, empty if it has none; and that it leaves all as it is.
func is(t *testing.T, p api.Program, node int, e api.Expr, want string) {
	t.Helper()
	if !expr.Right(e) {
		t.Fatalf("%s is not right", cut(e))
	}
	as := copied(e)
	for range 2 {
		u, ok := types.Of(p, node, e)
		if ty.Text(p.Enums, u) != want || ok != (want != "") || !ok && u != (api.Ty{}) {
			t.Fatalf("Of is %+v, %v, not %q in the node %d, of %s", u, ok, want, node, cut(e))
		}
	}
	if !expr.Same(e, as) {
		t.Fatalf("Of has changed %s", cut(as))
	}
}

// copied is e, with lists of its own.
func copied(e api.Expr) api.Expr {
	e.Arms, e.Subs = slices.Clone(e.Arms), slices.Clone(e.Subs)
	for i, s := range e.Subs {
		e.Subs[i] = copied(s)
	}
	return e
}

// own are the variables of a node.
func own(n api.Node) []api.Decl {
	return slices.Concat(n.Ins, n.Outs, n.Vars)
}

// arms are all arms there are, those of an enum behind one another.
func arms(l []api.Enum) []string {
	all := []string{"true", "false"}
	for _, e := range l {
		all = append(all, e.Ctors...)
	}
	return all
}

// fault makes a fault.
func fault(node, eq int, err api.Errno) api.Fault {
	return api.Fault{Node: node, Eq: eq, Err: err}
}

// mistyped is the fault of what has a wrong type.
func mistyped(node, eq int) api.Fault {
	return fault(node, eq, api.ErrType)
}

// fine is what Check tells of a program with which nothing is wrong.
func fine() api.Fault {
	return api.Fault{}
}

// check holds what Check tells of p against want: as it is handed in, with nothing in the place of empty lists, and with empty lists in the place of nothing; and that it leaves p as it is.
func check(t *testing.T, what string, p api.Program, want api.Fault) {
	t.Helper()
	as := fmt.Sprintf("%+v", p)
	answers(t, what, p, want)
	for _, lists := range []func(reflect.Value){none, empty} {
		each(&p, lists)
		answers(t, what, p, want)
	}
	if fmt.Sprintf("%+v", p) != as {
		t.Fatalf("%s: Check has changed %s", what, as)
	}
}

// answers holds what Check tells of p against want.
func answers(t *testing.T, what string, p api.Program, want api.Fault) {
	t.Helper()
	if f := types.Check(p); f != want {
		t.Fatalf("%s: Check is %+v, not %+v: %s", what, f, want, cut(p))
	}
}

// tells holds what Check tells of a text against want.
func tells(t *testing.T, s string, want api.Fault) {
	t.Helper()
	check(t, s, program(t, s), want)
}

// each goes through all fields and items of p, a list ahead of what is in it.
func each(p *api.Program, do func(reflect.Value)) {
	inside(reflect.ValueOf(p).Elem(), do)
}

func inside(v reflect.Value, do func(reflect.Value)) {
	do(v)
	switch v.Kind() {
	case reflect.Struct:
		for i := range v.NumField() {
			inside(v.Field(i), do)
		}
	case reflect.Slice:
		for i := range v.Len() {
			inside(v.Index(i), do)
		}
	}
}

// none puts nothing in the place of an empty list.
func none(v reflect.Value) {
	if v.Kind() == reflect.Slice && v.Len() == 0 {
		v.SetZero()
	}
}

// empty puts an empty list in the place of nothing.
func empty(v reflect.Value) {
	if v.Kind() == reflect.Slice && v.IsNil() {
		v.Set(reflect.MakeSlice(v.Type(), 0, 2))
	}
}

// cut is the beginning of all that is in something, as a text.
func cut(p any) string {
	s := fmt.Sprintf("%+v", p)
	return s[:min(len(s), 1500)]
}

// put is e with its part at a place exchanged for what is made of it.
func put(e api.Expr, at int, other func(api.Expr) api.Expr) api.Expr {
	var within func(api.Expr) api.Expr
	within = func(e api.Expr) api.Expr {
		at--
		if at == -1 {
			return other(e)
		}
		e.Subs = slices.Clone(e.Subs)
		for i, s := range e.Subs {
			e.Subs[i] = within(s)
		}
		return e
	}
	return within(e)
}

// reckoned tells by texts alone which type e has in a node, as ty.Text tells it; nothing, if it has none.
func reckoned(p api.Program, node int, e api.Expr) string {
	var subs []string
	for _, s := range e.Subs {
		subs = append(subs, reckoned(p, node, s))
	}
	if slices.Contains(subs, "") {
		return ""
	}
	s := strings.Join(subs, " ")
	switch e.Kind {
	case api.ExNum:
		return "int"
	case api.ExBool:
		return "bool"
	case api.ExCtor:
		return armed(p, e.Name)
	case api.ExVar:
		return declared(p, node, e.Name)
	case api.ExUn:
		return map[int]map[string]string{api.OpNeg: {"int": "int"}, api.OpNot: {"bool": "bool"}}[e.Op][s]
	case api.ExBin:
		return joined(e.Op, subs[0], subs[1])
	case api.ExWhen:
		if on := declared(p, node, e.Name); on != "" && on == armed(p, e.Arms[0]) {
			return subs[0]
		}
		return ""
	case api.ExMerge:
		if merged(p, node, e) && s == repeated(subs[0], len(subs)) {
			return subs[0]
		}
		return ""
	case api.ExCall:
		if outs := called(p, e.Name, subs, int(e.N)); len(outs) == 1 {
			return outs[0]
		}
		return ""
	case api.ExOld:
		return ""
	}
	return composed(e.Kind, subs)
}

// composed tells the type of what has nothing but parts, of these types.
func composed(kind int, subs []string) string {
	first, s := subs[0], strings.Join(subs, " ")
	single, _, isArray := strings.Cut(first, "[")
	so := false
	switch kind {
	case api.ExIf:
		first = subs[1]
		so = s == "bool "+first+" "+first
	case api.ExFby, api.ExArrow:
		so = s == first+" "+first
	case api.ExPre:
		so = true
	case api.ExArr:
		so = s == repeated(single, len(subs))
		first = fmt.Sprintf("%s[%d]", single, len(subs))
	case api.ExAt:
		so = isArray && s == first+" int"
		first = single
	case api.ExSet:
		so = isArray && s == first+" int "+single
	}
	if !so {
		return ""
	}
	return first
}

// joined tells the type of what an operator makes of two.
func joined(op int, a, b string) string {
	s := a + " " + b
	switch {
	case a != b || strings.Contains(a, "["):
		return ""
	case op >= api.OpAdd && op <= api.OpMod && s == "int int":
		return "int"
	case op >= api.OpAnd && op <= api.OpXor && s == "bool bool", op == api.OpEq, op == api.OpNe, op >= api.OpLt && op <= api.OpGe && s == "int int":
		return "bool"
	}
	return ""
}

// repeated is a type so often.
func repeated(s string, n int) string {
	return strings.Join(slices.Repeat([]string{s}, n), " ")
}

// declared tells the type of a variable; nothing, if there is none.
func declared(p api.Program, node int, name string) string {
	for _, d := range own(p.Nodes[node]) {
		if d.Name == name {
			return ty.Text(p.Enums, d.Ty)
		}
	}
	return ""
}

// armed tells the type of an arm; nothing, if there is none.
func armed(p api.Program, arm string) string {
	if arm == "true" || arm == "false" {
		return "bool"
	}
	for _, e := range p.Enums {
		if slices.Contains(e.Ctors, arm) {
			return e.Name
		}
	}
	return ""
}

// merged tells whether the arms of a merge are all those of its variable, in order.
func merged(p api.Program, node int, e api.Expr) bool {
	l := strings.Join(e.Arms, " ")
	switch s := declared(p, node, e.Name); s {
	case "bool":
		return l == "true false"
	default:
		return slices.ContainsFunc(p.Enums, func(x api.Enum) bool { return x.Name == s && strings.Join(x.Ctors, " ") == l })
	}
}

// called tells the types of a call's outputs; none, if the types of its parts, the last of which may reset it, are not as they must be.
func called(p api.Program, name string, subs []string, resets int) []string {
	at := prog.Find(p, name)
	if at < 0 {
		return nil
	}
	var asked, outs []string
	for _, d := range p.Nodes[at].Ins {
		asked = append(asked, ty.Text(p.Enums, d.Ty))
	}
	for range resets {
		asked = append(asked, "bool")
	}
	for _, d := range p.Nodes[at].Outs {
		outs = append(outs, ty.Text(p.Enums, d.Ty))
	}
	if !slices.Equal(asked, subs) {
		return nil
	}
	return outs
}
