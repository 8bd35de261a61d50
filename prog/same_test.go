package prog_test

import (
	"math"
	"reflect"
	"testing"

	"noria/api"
	"noria/prog"
)

// example is the chapter's example.
func example() api.Program {
	c := always("c")
	c.Ty.Kind = api.KBool
	return api.Program{Nodes: []api.Node{{
		Name: "f",
		Ins:  []api.Decl{c},
		Outs: []api.Decl{always("y")},
		Vars: []api.Decl{when("h", "c", "true")},
		Eqs: []api.Eq{
			eq(api.Expr{Kind: api.ExWhen, Name: "c", Arms: []string{"true"}, Subs: []api.Expr{num(1)}}, "h"),
			eq(api.Expr{Kind: api.ExMerge, Name: "c", Arms: []string{"true", "false"}, Subs: []api.Expr{variable("h"), num(0)}}, "y"),
		},
	}}}
}

// differences change a field or a list, each such that it leaves nothing as it was, if it is of its kind; some change nothing, where a list is short.
func differences() []func(reflect.Value) {
	number := func(change func(int64) int64) func(reflect.Value) {
		return func(v reflect.Value) {
			if v.CanInt() {
				v.SetInt(change(v.Int()))
			}
		}
	}
	text := func(change func(string) string) func(reflect.Value) {
		return func(v reflect.Value) {
			if v.Kind() == reflect.String {
				v.SetString(change(v.String()))
			}
		}
	}
	list := func(least int, change func(reflect.Value)) func(reflect.Value) {
		return func(v reflect.Value) {
			if v.Kind() == reflect.Slice && v.Len() >= least {
				change(v)
			}
		}
	}
	return []func(reflect.Value){
		number(func(n int64) int64 { return n + 1 }),
		number(func(n int64) int64 { return n - 1 }),
		number(func(n int64) int64 { return n ^ 1<<32 }),
		number(func(n int64) int64 { return n ^ math.MinInt64 }),
		text(func(s string) string { return s + "x" }),
		text(func(s string) string { return s + "\x00" }),
		text(func(s string) string { return "x" + s }),
		text(func(s string) string { return "Up" }),
		text(func(s string) string { return s[:max(len(s)-1, 0)] }),
		text(func(string) string { return "" }),
		list(0, func(v reflect.Value) { v.Set(reflect.Append(v, reflect.Zero(v.Type().Elem()))) }),
		list(0, func(v reflect.Value) {
			v.Set(reflect.AppendSlice(reflect.MakeSlice(v.Type(), 1, 1), v))
		}),
		list(1, func(v reflect.Value) { v.Set(reflect.Append(v, v.Index(v.Len()-1))) }),
		list(1, func(v reflect.Value) { v.SetLen(v.Len() - 1) }),
		list(1, func(v reflect.Value) { v.Set(v.Slice(1, v.Len())) }),
		list(1, func(v reflect.Value) { v.SetZero() }),
		list(2, func(v reflect.Value) { swap(v, 0, 1) }),
		list(2, func(v reflect.Value) { swap(v, v.Len()-2, v.Len()-1) }),
		list(2, func(v reflect.Value) { swap(v, 0, v.Len()-1) }),
		list(2, func(v reflect.Value) { v.Index(0).Set(v.Index(1)) }),
	}
}

// swap puts each of two items in the other one's place.
func swap(v reflect.Value, i, j int) {
	reflect.Swapper(v.Interface())(i, j)
}

// same holds what Same tells of a and b, both ways round, against want: as they are handed in, with empty lists and with none; it changes none of them.
func same(t *testing.T, a, b api.Program, want bool) {
	t.Helper()
	asA, asB := copied(a), copied(b)
	for _, c := range []api.Program{a, none(a), empty(a)} {
		for _, d := range []api.Program{b, none(b), empty(b)} {
			if prog.Same(c, d) != want || prog.Same(d, c) != want {
				t.Fatalf("Same of %s and %s is %v, and the other way round %v", cut(c), cut(d), prog.Same(c, d), prog.Same(d, c))
			}
		}
	}
	if !reflect.DeepEqual(a, asA) || !reflect.DeepEqual(b, asB) {
		t.Fatalf("Same has changed %s or %s", cut(asA), cut(asB))
	}
}

// P12.2: each program is the same as a copy of it, and as no other.
func TestSame(t *testing.T) {
	l := append(bases(), example(), api.Program{}, api.Program{Enums: enums()}, api.Program{Nodes: make([]api.Node, 1)}, api.Program{Nodes: make([]api.Node, 2)}, api.Program{Enums: make([]api.Enum, 1)})
	for i, a := range l {
		for j, b := range l {
			same(t, a, copied(b), i == j)
		}
	}
	same(t, api.Program{}, api.Program{Enums: []api.Enum{}, Nodes: []api.Node{}}, true)
	bare := api.Node{Ins: []api.Decl{}, Outs: []api.Decl{}, Vars: []api.Decl{}, Eqs: []api.Eq{}}
	same(t, api.Program{Nodes: []api.Node{bare}}, api.Program{Nodes: make([]api.Node, 1)}, true)
	same(t, api.Program{Enums: []api.Enum{{Ctors: []string{}}}}, api.Program{Enums: make([]api.Enum, 1)}, true)
	bare.Eqs = []api.Eq{{Names: []string{}, E: api.Expr{Arms: []string{}, Subs: []api.Expr{}}}}
	same(t, api.Program{Nodes: []api.Node{bare}}, api.Program{Nodes: []api.Node{{Eqs: make([]api.Eq, 1)}}}, true)
}

// P12.2: programs that differ in one field alone, or in the items of one list, are not the same.
func TestSameButOne(t *testing.T) {
	did := make([]int, len(differences()))
	for _, p := range []api.Program{small(), example(), roomy()} {
		for at := range places(p) {
			for i, change := range differences() {
				q := changed(p, at, change)
				want := reflect.DeepEqual(none(p), none(q))
				same(t, p, q, want)
				if !want {
					did[i]++
				}
			}
		}
	}
	for i, n := range did {
		if n == 0 {
			t.Fatalf("the change %d never changed anything", i)
		}
	}
}

// P12.2: each field of all that a program has tells programs apart, in nodes and enums at whatever place.
func TestSameFields(t *testing.T) {
	seen := map[string]int{}
	p := full()
	for at := range places(p) {
		var what string
		q := changed(p, at, func(v reflect.Value) {
			switch {
			case v.CanInt():
				v.SetInt(v.Int() + 1)
			case v.Kind() == reflect.String:
				v.SetString(v.String() + "x")
			case v.Kind() == reflect.Slice:
				v.Set(reflect.Append(v, reflect.Zero(v.Type().Elem())))
			default:
				return
			}
			what = v.Type().String()
		})
		if what == "" {
			continue
		}
		seen[what]++
		if prog.Same(p, q) || prog.Same(q, p) || !prog.Same(q, copied(q)) {
			t.Fatalf("Same does not tell %s apart from %s", cut(q), cut(p))
		}
	}
	for _, what := range []string{"string", "int", "int64", "[]string", "[]api.Enum", "[]api.Node", "[]api.Decl", "[]api.Eq", "[]api.Expr"} {
		if seen[what] == 0 {
			t.Fatalf("%s never changed", what)
		}
	}
}

// P12.2: a list's items do not stand for those of another list, nor a field for another one.
func TestSameMoved(t *testing.T) {
	one := func(n api.Node) api.Program { return api.Program{Nodes: []api.Node{n}} }
	l := []api.Program{
		one(api.Node{Ins: decls("a", 1)}), one(api.Node{Outs: decls("a", 1)}), one(api.Node{Vars: decls("a", 1)}), one(api.Node{Name: "a"}),
		one(api.Node{Ins: decls("a", 2)}), one(api.Node{Ins: decls("a", 1), Vars: decls("a", 2)[1:]}), one(api.Node{Ins: decls("a", 1), Outs: decls("a", 2)[1:]}),
		one(api.Node{Vars: []api.Decl{{Name: "a"}}}), one(api.Node{Vars: []api.Decl{{On: "a"}}}), one(api.Node{Vars: []api.Decl{{Ctor: "a"}}}),
		one(api.Node{Vars: []api.Decl{{Ty: of(1, 0, 0)}}}), one(api.Node{Vars: []api.Decl{{Ty: of(0, 1, 0)}}}), one(api.Node{Vars: []api.Decl{{Ty: of(0, 0, 1)}}}),
		one(api.Node{Eqs: []api.Eq{eq(api.Expr{}, "a", "b")}}), one(api.Node{Eqs: []api.Eq{eq(api.Expr{}, "a"), eq(api.Expr{}, "b")}}), one(api.Node{Eqs: []api.Eq{eq(api.Expr{}, "ab")}}), one(api.Node{Eqs: []api.Eq{eq(variable("a"))}}),
		{Enums: []api.Enum{enum("a", "b")}}, {Enums: []api.Enum{enum("a"), enum("b")}}, {Enums: []api.Enum{enum("", "a", "b")}}, {Enums: []api.Enum{enum("", "ab")}}, {Enums: []api.Enum{enum("ab")}},
	}
	for i, a := range l {
		for j, b := range l {
			same(t, a, b, i == j)
		}
	}
}

// P12.2: what chance makes is the same as what it makes again, and as nothing else.
func TestSameByChance(t *testing.T) {
	one, again, other := rolled(1), rolled(1), rolled(2)
	for range 2000 {
		p, q, o := one.program(), again.program(), other.program()
		if !prog.Same(p, q) || prog.Same(p, o) != reflect.DeepEqual(none(p), none(o)) {
			t.Fatalf("Same is wrong of %s", cut(p))
		}
	}
}

// P12.2: programs that are not right, too, are the same or not, however deep their expressions are.
func TestSameDeep(t *testing.T) {
	deep := func(n int, e api.Expr) api.Program {
		p := small()
		p.Nodes[0].Eqs = []api.Eq{eq(nested(n, e), "y0")}
		return p
	}
	for _, n := range []int{12, 100, 65000} {
		if !prog.Same(deep(n, num(1)), deep(n, num(1))) || prog.Same(deep(n, num(1)), deep(n, num(2))) || prog.Same(deep(n, num(1)), deep(n+1, num(1))) {
			t.Fatalf("Same is wrong of what lies %d deep", n)
		}
	}
}
