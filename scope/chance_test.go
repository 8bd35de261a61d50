package scope_test

import (
	"math"
	"math/rand/v2"
	"reflect"
	"slices"
	"strconv"
	"testing"

	"noria/api"
	"noria/prog"
	"noria/scope"
)

// reckoned gathers all that is wrong with p, in the order of the chapter, and tells the first of it.
func reckoned(p api.Program) api.Fault {
	if err := prog.Check(p); err != api.OK {
		return refused(err)
	}
	for i, n := range p.Nodes {
		if l := wrongs(p, i, n); len(l) > 0 {
			return l[0]
		}
	}
	return fine()
}

// wrongs are all the faults of a node, of lists alone.
func wrongs(p api.Program, i int, n api.Node) []api.Fault {
	var l []api.Fault
	note := func(eq int, is bool, err api.Errno) {
		if is {
			l = append(l, fault(i, eq, err))
		}
	}
	arms := []string{"true", "false"}
	for _, e := range p.Enums {
		arms = append(arms, e.Ctors...)
	}
	vars := own(n)
	noVar := func(s string) bool { return !slices.Contains(vars, s) }
	noArm := func(s string) bool { return !slices.Contains(arms, s) }
	for _, d := range slices.Concat(n.Ins, n.Outs, n.Vars) {
		note(-1, d.On != "" && noVar(d.On), api.ErrNone)
		note(-1, d.Ctor != "" && noArm(d.Ctor), api.ErrNone)
	}
	ahead := vars[:len(n.Ins):len(n.Ins)]
	for j, q := range n.Eqs {
		for _, s := range q.Names {
			note(j, noVar(s), api.ErrNone)
			note(j, slices.Contains(ahead, s), api.ErrThere)
			ahead = append(ahead, s)
		}
		var within func(api.Expr)
		within = func(e api.Expr) {
			at := prog.Find(p, e.Name)
			note(j, (e.Kind == api.ExVar || len(e.Arms) > 0) && noVar(e.Name), api.ErrNone)
			note(j, slices.ContainsFunc(e.Arms, noArm), api.ErrNone)
			note(j, e.Kind == api.ExCtor && noArm(e.Name), api.ErrNone)
			note(j, e.Kind == api.ExCall && (at < 0 || at >= i), api.ErrNone)
			note(j, e.Kind == api.ExOld, api.ErrNone)
			for _, s := range e.Subs {
				within(s)
			}
		}
		within(q.E)
	}
	for _, s := range vars {
		note(-1, !slices.Contains(ahead, s), api.ErrNone)
	}
	return l
}

// differences change a field, or a list, of that kind; some change nothing, where a list is short.
func differences(kind reflect.Kind) []func(reflect.Value) {
	var l []func(reflect.Value)
	list := func(least int, change func(reflect.Value)) {
		l = append(l, func(v reflect.Value) {
			if v.Len() >= least {
				change(v)
			}
		})
	}
	swap := func(v reflect.Value, i, j int) { reflect.Swapper(v.Interface())(i, j) }
	switch kind {
	case reflect.String:
		for _, s := range []string{"", "nope", "a", "c", "y", "z", "h", "r", "v", "f", "g", "main", "way", "Up", "Nope", "true", "false"} {
			l = append(l, func(v reflect.Value) { v.SetString(s) })
		}
	case reflect.Int, reflect.Int64:
		for _, n := range []int64{0, 1, 3, 4, 17, -1, math.MaxInt64} {
			l = append(l, func(v reflect.Value) { v.SetInt(n) })
		}
	case reflect.Slice:
		list(0, func(v reflect.Value) { v.Set(reflect.Append(v, reflect.Zero(v.Type().Elem()))) })
		list(1, func(v reflect.Value) { v.Set(reflect.Append(v, v.Index(0))) })
		list(1, func(v reflect.Value) { v.Set(reflect.Append(v, v.Index(v.Len()-1))) })
		list(1, func(v reflect.Value) { v.SetLen(v.Len() - 1) })
		list(1, func(v reflect.Value) { v.Set(v.Slice(1, v.Len())) })
		list(1, func(v reflect.Value) { v.SetZero() })
		list(2, func(v reflect.Value) { swap(v, 0, 1) })
		list(2, func(v reflect.Value) { swap(v, v.Len()-2, v.Len()-1) })
		list(2, func(v reflect.Value) { swap(v, 0, v.Len()-1) })
		list(2, func(v reflect.Value) { v.Index(0).Set(v.Index(1)) })
	}
	return l
}

// at is what each goes through as its n-th.
func at(p *api.Program, n int) reflect.Value {
	var there reflect.Value
	each(p, func(v reflect.Value) {
		if n == 0 {
			there = v
		}
		n--
	})
	return there
}

// kinds tells of what kind each is that each goes through.
func kinds(p api.Program) []reflect.Kind {
	var l []reflect.Kind
	each(&p, func(v reflect.Value) { l = append(l, v.Kind()) })
	return l
}

// P15.2: what is changed in one field, or in one list, is told as what is gathered of it.
func TestButOne(t *testing.T) {
	count := map[api.Fault]int{}
	for n, kind := range kinds(program(t, town)) {
		for _, change := range differences(kind) {
			p := program(t, town)
			change(at(&p, n))
			want := reckoned(p)
			count[want]++
			answers(t, "a change", p, want)
		}
	}
	for _, f := range []api.Fault{fine(), refused(api.ErrArg), refused(api.ErrNone), refused(api.ErrThere), fault(1, -1, api.ErrNone), fault(2, -1, api.ErrNone)} {
		if count[f] == 0 {
			t.Errorf("%+v is never told", f)
		}
	}
	for i, n := range program(t, town).Nodes {
		for j := range n.Eqs {
			for _, err := range []api.Errno{api.ErrNone, api.ErrThere} {
				if count[fault(i, j, err)] == 0 {
					t.Errorf("%d is never told of the equation %d of the node %d", err, j, i)
				}
			}
		}
	}
}

// dice makes programs by chance.
type dice struct{ *rand.Rand }

func (r dice) of(l []string) string {
	return l[r.IntN(len(l))]
}

// ctors are those of the enums of these programs.
func ctors() []string {
	return []string{"Up", "Down", "Left", "Red", "Green"}
}

// expr makes an expression of variables, and of calls of nodes.
func (r dice) expr(vars, nodes []string, depth int) api.Expr {
	part := func() api.Expr { return r.expr(vars, nodes, depth-1) }
	leaf := []api.Expr{{Kind: api.ExNum, N: r.Int64N(9)}, named(api.ExVar, r.of(vars), nil), named(api.ExCtor, r.of(ctors()), nil)}[r.IntN(3)]
	if depth == 0 {
		return leaf
	}
	switch r.IntN(8) {
	case 0:
		return api.Expr{Kind: api.ExBin, Op: api.OpAdd, Subs: []api.Expr{part(), part()}}
	case 1:
		return api.Expr{Kind: api.ExFby, Subs: []api.Expr{named(api.ExCtor, r.of(ctors()), nil), part()}}
	case 2:
		return named(api.ExWhen, r.of(vars), []string{r.of(append(ctors(), "true", "false"))}, part())
	case 3:
		return named(api.ExMerge, r.of(vars), []string{"true", r.of(ctors())}, part(), part())
	case 4:
		return api.Expr{Kind: api.ExIf, Subs: []api.Expr{part(), part(), part()}}
	case 5, 6:
		if len(nodes) > 0 {
			return r.call(vars, nodes, depth)
		}
	}
	return leaf
}

// call makes a call of one of the nodes.
func (r dice) call(vars, nodes []string, depth int) api.Expr {
	e := api.Expr{Kind: api.ExCall, Name: r.of(nodes), N: r.Int64N(2)}
	for range r.Int64N(3) + e.N {
		e.Subs = append(e.Subs, r.expr(vars, nodes, depth-1))
	}
	return e
}

// decls makes up to so many variables of names that begin so.
func (r dice) decls(first string, least, most int) []api.Decl {
	var l []api.Decl
	for _, s := range names(first, least+r.IntN(most-least+1)) {
		l = append(l, api.Decl{Name: s, Ty: api.Ty{Kind: api.KInt}})
	}
	return l
}

// node makes a node with which nothing is wrong, behind others.
func (r dice) node(name string, nodes []string) api.Node {
	n := api.Node{Name: name, Ins: r.decls("a", 0, 3), Outs: r.decls("y", 1, 3), Vars: r.decls("v", 0, 4)}
	vars := own(n)
	for i := range n.Vars {
		if r.IntN(2) == 0 {
			n.Vars[i].On, n.Vars[i].Ctor = r.of(vars), r.of(append(ctors(), "true", "false"))
		}
	}
	left := slices.Clone(vars[len(n.Ins):])
	r.Shuffle(len(left), reflect.Swapper(left))
	for len(left) > 0 {
		some, e := 1, r.expr(vars, nodes, 3)
		if len(nodes) > 0 && r.IntN(3) == 0 {
			some, e = 1+r.IntN(len(left)), r.call(vars, nodes, 3)
		}
		n.Eqs = append(n.Eqs, api.Eq{Names: left[:some:some], E: e})
		left = left[some:]
	}
	return n
}

// program makes a program with which nothing is wrong.
func (r dice) program() api.Program {
	p := api.Program{Enums: []api.Enum{enum("way", "Up", "Down", "Left"), enum("hue", "Red", "Green")}}
	for i := range 1 + r.IntN(6) {
		p.Nodes = append(p.Nodes, r.node("n"+strconv.Itoa(i), names("n", i)))
	}
	return p
}

// spoil changes something of p; not always is something wrong with it then.
func (r dice) spoil(p *api.Program) {
	n := &p.Nodes[r.IntN(len(p.Nodes))]
	q := &n.Eqs[r.IntN(len(n.Eqs))]
	at, other := r.IntN(len(n.Eqs)), r.IntN(len(n.Eqs))
	lows := []string{"nope", "a0", "a1", "a2", "y0", "y1", "y2", "v0", "v1", "v2", "v3", "n0", "n1", "n3", "n5"}
	highs := append(ctors(), "Nope", "True", "true", "false")
	// As low names stand where high ones may not, and the other way round, prog.Check would refuse most of what is changed at random.
	switch r.IntN(6) {
	case 0:
		q.Names[r.IntN(len(q.Names))] = r.of(lows)
	case 1:
		if len(n.Vars) > 0 {
			d := &n.Vars[r.IntN(len(n.Vars))]
			d.On, d.Ctor = r.of(lows), r.of(highs)
		}
	case 2:
		n.Eqs = slices.Delete(n.Eqs, at, at+1)
	case 3:
		n.Eqs = slices.Insert(n.Eqs, at, n.Eqs[other])
	case 4:
		i, j := r.IntN(len(p.Nodes)), r.IntN(len(p.Nodes))
		p.Nodes[i], p.Nodes[j] = p.Nodes[j], p.Nodes[i]
	case 5:
		part := r.IntN(4)
		q.E = put(q.E, part, func(e api.Expr) api.Expr {
			e.Name = r.of([][]string{lows, highs, {""}, {e.Name}}[r.IntN(4)])
			if e.Arms = slices.Clone(e.Arms); len(e.Arms) > 0 {
				e.Arms[r.IntN(len(e.Arms))] = r.of(highs)
			}
			return e
		})
	}
}

// P15.2, P15.3: what chance makes is told as what is gathered of it.
func TestByChance(t *testing.T) {
	r := dice{rand.New(rand.NewPCG(15, 47))}
	count := map[api.Fault]int{}
	for range 10000 {
		p := r.program()
		answers(t, "as it is made", p, fine())
		for range 1 + r.IntN(2) {
			if !slices.ContainsFunc(p.Nodes, func(n api.Node) bool { return len(n.Eqs) == 0 }) {
				r.spoil(&p)
			}
		}
		want := reckoned(p)
		answers(t, "as it is spoilt", p, want)
		want.Eq = min(want.Eq, 2)
		count[want]++
	}
	for node := range 5 {
		for eq := range 3 {
			for _, err := range []api.Errno{api.ErrNone, api.ErrThere} {
				if f := fault(node, eq, err); count[f] < 3 {
					t.Errorf("%+v is told %d times", f, count[f])
				}
			}
		}
		if f := fault(node, -1, api.ErrNone); count[f] < 3 {
			t.Errorf("%+v is told %d times", f, count[f])
		}
	}
	if count[fine()] < 1000 {
		t.Errorf("%d are all right", count[fine()])
	}
}

// Rules: what is told hangs on the program alone, not on those that were asked ahead of it.
func TestEachAlone(t *testing.T) {
	texts := []string{
		town,
		"node f(a: int) returns (b: int) let b = c; tel",
		"node f(a: int; c: int) returns (b: int) let b = c; tel",
		"node g() returns (y: int) let y = f(1); tel",
		"node f(a: int) returns (y: int) let y = a; y = a; tel",
		"enum way { Nope }; node f(a: int) returns (y: int) let y = Nope; tel",
		"node f(a: int) returns (y: int) let y = Up; tel",
		"node f() returns (y: int) let tel",
	}
	var alone []api.Fault
	for _, s := range texts {
		alone = append(alone, scope.Check(program(t, s)))
	}
	for range 50 {
		for i, s := range texts {
			for j, u := range texts {
				answers(t, s, program(t, s), alone[i])
				answers(t, u, program(t, u), alone[j])
			}
		}
	}
	if alone[0] != fine() || alone[2] != fine() || alone[5] != fine() {
		t.Errorf("%+v", alone)
	}
}
