package print_test

import (
	"fmt"
	"reflect"
	"slices"
	"strconv"
	"strings"

	"noria/api"
)

// enum makes an enum.
func enum(name string, ctors ...string) api.Enum {
	return api.Enum{Name: name, Ctors: ctors}
}

// of makes a type.
func of(kind, place, length int) api.Ty {
	return api.Ty{Kind: kind, Enum: place, Len: length}
}

// always makes a variable that is there always.
func always(name string) api.Decl {
	return api.Decl{Name: name, Ty: of(api.KInt, 0, 0)}
}

// when makes a variable that is there on an arm of another one.
func when(name, on, arm string) api.Decl {
	return api.Decl{Name: name, Ty: of(api.KInt, 0, 0), On: on, Ctor: arm}
}

// eq makes an equation.
func eq(e api.Expr, names ...string) api.Eq {
	return api.Eq{Names: names, E: e}
}

// ex makes an expression of a kind with parts.
func ex(kind int, subs ...api.Expr) api.Expr {
	return api.Expr{Kind: kind, Subs: subs}
}

// num makes the number n.
func num(n int64) api.Expr {
	return api.Expr{Kind: api.ExNum, N: n}
}

// variable makes a variable, as an expression.
func variable(name string) api.Expr {
	return api.Expr{Kind: api.ExVar, Name: name}
}

// call makes a call of a node.
func call(name string, args ...api.Expr) api.Expr {
	return api.Expr{Kind: api.ExCall, Name: name, Subs: args}
}

// nested makes e with so many ExPre around it.
func nested(n int, e api.Expr) api.Expr {
	for range n {
		e = ex(api.ExPre, e)
	}
	return e
}

// wide makes an expression of n parts, from 2 on, that lie no deeper than they must.
func wide(n int) api.Expr {
	e := ex(api.ExArr)
	for left := n - 1; left > 0; {
		some := min(left, 9)
		if some == 1 {
			e.Subs = append(e.Subs, num(1))
		} else {
			e.Subs = append(e.Subs, ex(api.ExArr, slices.Repeat([]api.Expr{num(1)}, some-1)...))
		}
		left -= some
	}
	return e
}

// rights are right expressions: one of each kind, and those at the bounds; the calls are last.
func rights() []api.Expr {
	a, b, c := variable("a"), variable("b"), num(1)
	return []api.Expr{
		num(0), num(1<<63 - 1), {Kind: api.ExBool, N: 1}, a, {Kind: api.ExCtor, Name: "Up"}, {Kind: api.ExOld, Name: "a/b.7"},
		{Kind: api.ExUn, Op: api.OpNot, Subs: []api.Expr{a}}, {Kind: api.ExBin, Op: api.OpAdd, Subs: []api.Expr{a, c}},
		ex(api.ExIf, a, b, c), ex(api.ExFby, c, a), ex(api.ExArrow, c, b), ex(api.ExPre, a),
		{Kind: api.ExWhen, Name: "c", Arms: []string{"Up"}, Subs: []api.Expr{a}},
		{Kind: api.ExMerge, Name: "c", Arms: []string{"true", "false"}, Subs: []api.Expr{a, b}},
		ex(api.ExArr, a, b), ex(api.ExAt, a, c), ex(api.ExSet, a, c, b),
		nested(11, a), wide(60), call("f"), call("g", a, b), {Kind: api.ExCall, Name: "h", N: 1, Subs: []api.Expr{a, b}},
	}
}

// wrongs are expressions that are not right; the calls are last.
func wrongs() []api.Expr {
	a, c := variable("a"), num(1)
	return []api.Expr{
		{}, num(-1), {Kind: api.ExBool, N: 2}, variable(""), variable("A"), variable("node"), {Kind: api.ExCtor, Name: "up"}, {Kind: api.ExOld, Name: "a//b"},
		{Kind: api.ExUn, Op: api.OpAdd, Subs: []api.Expr{a}}, {Kind: api.ExBin, Op: api.OpNeg, Subs: []api.Expr{a, c}}, {Kind: api.ExNum, N: 1, Name: "x"}, {Kind: api.ExVar, Name: "a", Op: 1},
		ex(api.ExIf, a, a), ex(api.ExFby, a, c), ex(api.ExArrow, c), ex(api.ExPre), ex(api.ExArr), ex(api.ExArr, slices.Repeat([]api.Expr{c}, 9)...), ex(18, a), ex(-1),
		{Kind: api.ExWhen, Name: "c", Arms: []string{"up"}, Subs: []api.Expr{a}}, {Kind: api.ExMerge, Name: "c", Arms: []string{"Up", "Up"}, Subs: []api.Expr{a, a}},
		nested(12, a), nested(70000, a), wide(61), wide(70000), ex(api.ExPre, variable("")), nested(10, num(-1)), nested(11, ex(api.ExArr, c)),
		call(""), call("F"), call("f", slices.Repeat([]api.Expr{c}, 7)...), {Kind: api.ExCall, Name: "f", N: 1}, call("f", a, variable("A")), call("f", nested(11, a)),
	}
}

// noLow are texts that are no low names.
func noLow() []string {
	return []string{
		"", " ", "_", "_a", "0", "9a", "A", "Way", "NODE", "abcdefghijklm", strings.Repeat("a", 1000),
		"a b", "a-b", " a", "a ", "a.1", "a/b", "a\x00", "\x00", "\u00e4", "a\u00e4", "a\xff", "a'", "a[3]",
		"node", "returns", "var", "let", "tel", "enum", "if", "then", "else", "fby", "pre", "when", "merge", "every",
		"not", "and", "or", "xor", "mod", "true", "false", "int", "bool", "with",
	}
}

// noArm are texts that are no arms.
func noArm() []string {
	return []string{
		"", " ", "_", "_A", "0", "1", "9A", "a", "up", "aB", "node", "not", "tru", "truee", "true ", " false", "fals", "tRUE", "ABCDEFGHIJKLM", strings.Repeat("A", 1000),
		"A B", "A-B", " A", "A ", "A.1", "A/B", "A\x00", "\x00", "\u00c4", "A\u00c4", "A\xff", "A'", "Up(c)",
	}
}

// wrongTypes are types that are not right where there are four enums.
func wrongTypes() []api.Ty {
	return []api.Ty{
		{}, of(0, 0, 1), of(4, 0, 0), of(-1, 0, 0), of(257, 0, 0), of(1<<32+1, 0, 0),
		of(api.KInt, 1, 0), of(api.KInt, -1, 0), of(api.KBool, 1, 2), of(api.KEnum, -1, 0), of(api.KEnum, 4, 0), of(api.KEnum, 1<<32, 0),
		of(api.KInt, 0, -1), of(api.KInt, 0, 9), of(api.KBool, 0, 9), of(api.KBool, 0, 1<<32+1), of(api.KEnum, 0, 9), of(api.KEnum, 3, -1),
	}
}

// names makes n names that begin as the first one says.
func names(first string, n int) []string {
	var l []string
	for i := range n {
		l = append(l, first+strconv.Itoa(i))
	}
	return l
}

// decls makes n variables that are there always.
func decls(first string, n int) []api.Decl {
	var l []api.Decl
	for _, s := range names(first, n) {
		l = append(l, always(s))
	}
	return l
}

// chain makes n variables, each of them there on the one ahead of it; the first one on another.
func chain(on, first string, n int) []api.Decl {
	var l []api.Decl
	for i, s := range names(first, n) {
		l = append(l, when(s, on, []string{"true", "false", "Up", "True"}[i%4]))
		on = s
	}
	return l
}

// eqs makes n equations.
func eqs(n int) []api.Eq {
	var l []api.Eq
	right := rights()
	for i, s := range names("y", n) {
		l = append(l, eq(right[i%len(right)], s))
	}
	return l
}

// enums is a list of as many enums as may be, with as many constructors as may be.
func enums() []api.Enum {
	return []api.Enum{
		enum("way", "Up", "Down", "Left", "Right", "In", "Out"),
		enum("hue", "Red", "Green", "Blue", "White", "Black", "Grey"),
		enum("abcdefghijkl", "ABCDEFGHIJKL", "M_0123456789", "N", "O9", "P_", "Qq"),
		enum("x9_", "X", "Y", "Z", "X1", "Y1", "Z1"),
	}
}

// small is a program with a node that has an output alone.
func small() api.Program {
	return api.Program{Nodes: []api.Node{{Name: "f", Outs: decls("y", 1)}}}
}

// full is a program with as much of everything as may be.
func full() api.Program {
	p := api.Program{Enums: enums()}
	for _, s := range names("n", 6) {
		n := api.Node{Name: s, Ins: decls("a", 6), Outs: decls("y", 6), Vars: chain("a0", "v", 12), Eqs: eqs(18)}
		n.Eqs[17] = eq(call("f", num(1)), names("y", 18)...)
		p.Nodes = append(p.Nodes, n)
	}
	return p
}

// exampleText is the text of the chapter's example.
const exampleText = "node f(a: int) returns (b: int)\nlet\n  b = a;\ntel\n"

// example is the chapter's example.
func example() api.Program {
	return api.Program{Nodes: []api.Node{{
		Name: "f",
		Ins:  []api.Decl{always("a")},
		Outs: []api.Decl{always("b")},
		Eqs:  []api.Eq{eq(variable("a"), "b")},
	}}}
}

// roomy is a program with something of everything, and room for more: two enums, three nodes.
func roomy() api.Program {
	p := api.Program{Enums: enums()[:2]}
	p.Enums[0].Ctors = p.Enums[0].Ctors[:3]
	for _, s := range []string{"f", "g", "h"} {
		n := api.Node{Name: s, Ins: decls("a", 2), Outs: decls("y", 2), Vars: chain("a1", "v", 3), Eqs: eqs(3)}
		n.Ins[1].Ty = of(api.KEnum, 1, 0)
		n.Outs[0].Ty = of(api.KBool, 0, 8)
		n.Vars[2].Ty = of(api.KEnum, 0, 1)
		n.Eqs = append(n.Eqs, eq(call("f", variable("a0")), "v0", "v1", "v2"), eq(rights()[13], "y1"))
		p.Nodes = append(p.Nodes, n)
	}
	return p
}

// copied is a program that shares nothing with p.
func copied(p api.Program) api.Program {
	return remade(p, func(l reflect.Value) reflect.Value {
		if l.IsNil() {
			return l
		}
		return list(l, 0)
	})
}

// none is p with nothing in the place of each empty list.
func none(p api.Program) api.Program {
	return remade(p, func(l reflect.Value) reflect.Value {
		if l.Len() == 0 {
			return reflect.Zero(l.Type())
		}
		return list(l, 0)
	})
}

// empty is p with an empty list in the place of each that is nothing; it has room for more behind each list.
func empty(p api.Program) api.Program {
	return remade(p, func(l reflect.Value) reflect.Value { return list(l, 3) })
}

// list is a list of the same as l, with room for so many more.
func list(l reflect.Value, room int) reflect.Value {
	m := reflect.MakeSlice(l.Type(), l.Len(), l.Len()+room)
	reflect.Copy(m, l)
	return m
}

// remade is p with another list in the place of each.
func remade(p api.Program, other func(reflect.Value) reflect.Value) api.Program {
	each(&p, func(v reflect.Value) {
		if v.Kind() == reflect.Slice {
			v.Set(other(v))
		}
	})
	return p
}

// each goes through all fields and items of p, a list ahead of what is in it.
func each(p *api.Program, do func(reflect.Value)) {
	within(reflect.ValueOf(p).Elem(), do)
}

func within(v reflect.Value, do func(reflect.Value)) {
	do(v)
	switch v.Kind() {
	case reflect.Struct:
		for i := range v.NumField() {
			within(v.Field(i), do)
		}
	case reflect.Slice:
		for i := range v.Len() {
			within(v.Index(i), do)
		}
	}
}

// changed is p, copied, with what stands at a place that each goes through changed.
func changed(p api.Program, at int, change func(reflect.Value)) api.Program {
	p = copied(p)
	// What is to be changed is looked for first: while each goes on, nothing changes under it.
	var there reflect.Value
	i := 0
	each(&p, func(v reflect.Value) {
		if i == at {
			there = v
		}
		i++
	})
	change(there)
	return p
}

// places tells how many places each goes through.
func places(p api.Program) int {
	n := 0
	each(&p, func(reflect.Value) { n++ })
	return n
}

// cut is p as a text for what is told of a test that fails.
func cut(p any) string {
	s := fmt.Sprintf("%+v", p)
	return s[:min(len(s), 400)]
}
