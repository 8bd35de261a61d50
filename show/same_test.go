package show_test

import (
	"math/rand/v2"
	"slices"
	"strings"
	"testing"

	"noria/api"
	"noria/expr"
	"noria/show"
)

// told has of each text that was told the expression that has it.
type told map[string]api.Expr

// add asks that nothing but e has e's text, of what was told so far; what is not right goes by. It tells whether e is new.
func (l told) add(t *testing.T, e api.Expr) bool {
	t.Helper()
	s := show.Expr(e)
	if s == "" {
		if expr.Right(e) {
			t.Errorf("%q has no text", wanted(e))
		}
		return false
	}
	f, there := l[s]
	if there && !expr.Same(e, f) {
		t.Errorf("two have one text: %q", s)
	}
	l[s] = e
	return !there
}

// all tells with every right expression of n parts, of these heads.
func all(n int, of func(int) []api.Expr, tell func(api.Expr)) {
	for k := range min(n, 9) {
		for _, head := range of(k) {
			subs(k, n-1, of, nil, func(l []api.Expr) {
				e := head
				e.Subs = slices.Clone(l)
				if expr.Right(e) {
					tell(e)
				}
			})
		}
	}
}

// subs tells with every list of k right expressions, behind those of l, that have n parts in all.
func subs(k, n int, of func(int) []api.Expr, l []api.Expr, tell func([]api.Expr)) {
	if k == 0 {
		if n == 0 {
			tell(l)
		}
		return
	}
	for m := 1; m <= n-(k-1); m++ {
		all(m, of, func(e api.Expr) {
			subs(k-1, n-m, of, append(slices.Clip(l), e), tell)
		})
	}
}

// fewer are some of the heads, those that could be taken for one another.
func fewer(n int) []api.Expr {
	switch n {
	case 0:
		return []api.Expr{number(1), leaf(api.ExVar, "a")}
	case 1:
		return []api.Expr{{Kind: api.ExUn, Op: api.OpNeg}, clocked(api.ExWhen, "a", "true"), call(0), call(1), part(api.ExArr)}
	case 2:
		return []api.Expr{{Kind: api.ExBin, Op: api.OpSub}, part(api.ExAt), part(api.ExFby), part(api.ExArrow), call(0), call(1), part(api.ExArr)}
	case 3:
		return []api.Expr{part(api.ExSet), part(api.ExIf), call(1)}
	}
	return nil
}

// P10.2: of all small expressions no two have one text.
func TestSmall(t *testing.T) {
	l := told{}
	twice := 0
	add := func(e api.Expr) {
		if !l.add(t, e) {
			twice++
		}
	}
	for n := 1; n <= 4; n++ {
		all(n, heads, add)
	}
	if twice != 0 || len(l) < 50000 {
		t.Errorf("%d small ones, and %d twice", len(l), twice)
	}
	for n := 1; n <= 6; n++ {
		all(n, fewer, add)
	}
	if len(l) < 80000 {
		t.Errorf("%d small ones", len(l))
	}
}

// differ are changes of one field of a part, or of what it is: some leave it as it is, some spoil it.
func differ(p api.Expr) []func(*api.Expr) {
	l := []func(*api.Expr){
		func(p *api.Expr) { p.N = 1 - p.N },
		func(p *api.Expr) { p.N++ },
		func(p *api.Expr) { p.N *= 10 },
		func(p *api.Expr) { p.Name += "x" },
		func(p *api.Expr) { p.Name += "0" },
		func(p *api.Expr) { p.Name += "/a" },
		func(p *api.Expr) { p.Name = "not" + p.Name },
		func(p *api.Expr) { p.Name = p.Name[:len(p.Name)/2] },
		func(p *api.Expr) { slices.Reverse(p.Arms) },
		func(p *api.Expr) { slices.Reverse(p.Subs) },
		func(p *api.Expr) { slices.Reverse(p.Arms); slices.Reverse(p.Subs) },
		func(p *api.Expr) { p.Subs = append(p.Subs, number(1)) },
		func(p *api.Expr) { p.Subs = append([]api.Expr{number(1)}, p.Subs...) },
		func(p *api.Expr) { p.Subs = p.Subs[:max(len(p.Subs)-1, 0)] },
	}
	for kind := 1; kind <= 17; kind++ {
		l = append(l, func(p *api.Expr) { p.Kind = kind })
	}
	for op := 1; op <= 16; op++ {
		l = append(l, func(p *api.Expr) { p.Op = op })
	}
	for k := range p.Arms {
		for _, arm := range []string{"true", "false", "True", "False", "A", p.Arms[k] + "x"} {
			l = append(l, func(p *api.Expr) { p.Arms[k] = arm })
		}
	}
	for _, h := range heads(len(p.Subs)) {
		l = append(l, func(p *api.Expr) { h.Subs = p.Subs; *p = h })
	}
	for i := range wrappers(p) {
		l = append(l, func(p *api.Expr) { *p = wrappers(*p)[i] })
	}
	return l
}

// at tells e's part at a place.
func at(e api.Expr, place int) api.Expr {
	var p api.Expr
	changed(e, place, func(q *api.Expr) { p = *q })
	return p
}

// P10.2: expressions that differ in one part, wherever it is, have two texts.
func TestOnePart(t *testing.T) {
	l := told{}
	for i, e := range append(buriedAll(), inAll()) {
		l.add(t, e)
		before := len(l)
		for place := range places(e) {
			for _, change := range differ(at(e, place)) {
				l.add(t, changed(e, place, change))
			}
		}
		if len(l) == before {
			t.Errorf("nothing differs from %d", i)
		}
	}
	if len(l) < 10000 {
		t.Errorf("%d differ", len(l))
	}
}

// apart asks that expressions have each a text of its own, alone and far down in others, which are the same then.
func apart(t *testing.T, l ...api.Expr) {
	t.Helper()
	for _, n := range []int{0, 1, 2, 8} {
		for first := range wrappers(api.Expr{}) {
			m := told{}
			for _, e := range l {
				if !m.add(t, buried(n, first, e)) {
					t.Errorf("in %d others, is not right, or is there twice: %+v", n, e)
				}
			}
		}
	}
}

// P10.2: what differs far down in one field alone has two texts.
func TestOneField(t *testing.T) {
	a := leaf(api.ExVar, "a")
	apart(t, number(0), number(1), number(10), number(1<<62), truth(0), truth(1))
	apart(t, a, leaf(api.ExVar, "b"), leaf(api.ExVar, "aa"), leaf(api.ExVar, "a_"), leaf(api.ExVar, "a1"), leaf(api.ExVar, "aA"))
	apart(t, leaf(api.ExCtor, "A"), leaf(api.ExCtor, "B"), leaf(api.ExCtor, "True"), truth(1), leaf(api.ExCtor, "False"), truth(0))
	apart(t, a, leaf(api.ExOld, "a"), leaf(api.ExOld, "a/a"), leaf(api.ExOld, "a.1"), leaf(api.ExOld, "a.11"), leaf(api.ExOld, "a.1/a"), call0("a"))
	var ops []api.Expr
	for op := api.OpAdd; op <= api.OpGe; op++ {
		ops = append(ops, operation(op, a, a))
	}
	apart(t, append(ops, operation(api.OpNeg, a), operation(api.OpNot, a))...)
	var clocks []api.Expr
	for _, name := range strings.Fields("a b nota") {
		for _, arm := range strings.Fields("true false True False A B Not") {
			clocks = append(clocks, clocked(api.ExWhen, name, arm, a), clocked(api.ExMerge, name, arm, a))
		}
	}
	apart(t, clocks...)
	apart(t, call0("f"), call0("g"), call(0, a), call(1, a), call(0, a, a), call(1, a, a), call(0, call(0, a), a), call(1, call(0, a), a))
	apart(t, part(api.ExFby, number(1), a), part(api.ExArrow, number(1), a), part(api.ExAt, number(1), a), part(api.ExArr, number(1), a), call(0, number(1), a))
	apart(t, part(api.ExIf, a, a, a), part(api.ExSet, a, a, a), part(api.ExArr, a, a, a), call(0, a, a, a), call(1, a, a, a))
}

// call0 is a call without arguments.
func call0(name string) api.Expr {
	return api.Expr{Kind: api.ExCall, Name: name}
}

// P10.2: what differs in where the brackets stand alone has two texts.
func TestBrackets(t *testing.T) {
	a, b, c, d := leaf(api.ExVar, "a"), leaf(api.ExVar, "b"), leaf(api.ExVar, "c"), leaf(api.ExVar, "d")
	two := []func(x, y api.Expr) api.Expr{
		func(x, y api.Expr) api.Expr { return part(api.ExArrow, x, y) },
		func(x, y api.Expr) api.Expr { return part(api.ExAt, x, y) },
		func(x, y api.Expr) api.Expr { return part(api.ExArr, x, y) },
		func(x, y api.Expr) api.Expr { return call(0, x, y) },
		func(x, y api.Expr) api.Expr { return call(1, x, y) },
		func(x, y api.Expr) api.Expr { return part(api.ExIf, x, y, y) },
		func(x, y api.Expr) api.Expr { return part(api.ExSet, x, y, y) },
	}
	for op := api.OpAdd; op <= api.OpGe; op++ {
		two = append(two, func(x, y api.Expr) api.Expr { return operation(op, x, y) })
	}
	var l []api.Expr
	for _, f := range two {
		l = append(l, f(f(f(a, b), c), d), f(f(a, f(b, c)), d), f(f(a, b), f(c, d)), f(a, f(f(b, c), d)), f(a, f(b, f(c, d))))
	}
	apart(t, l...)
	one := number(1)
	apart(t, part(api.ExFby, one, part(api.ExFby, one, a)), part(api.ExFby, one, part(api.ExArrow, one, a)), part(api.ExArrow, part(api.ExFby, one, one), a), part(api.ExArrow, one, part(api.ExFby, one, a)))
	var ahead []api.Expr
	for _, f := range two {
		for _, w := range wrappers(a)[:2] {
			w.Subs = []api.Expr{f(a, b)}
			ahead = append(ahead, w)
			w.Subs = []api.Expr{a}
			ahead = append(ahead, f(w, b))
		}
		less := operation(api.OpNeg, a)
		ahead = append(ahead, operation(api.OpNeg, f(a, b)), f(less, b))
		ahead = append(ahead, clocked(api.ExWhen, "c", "true", f(a, b)), f(a, clocked(api.ExWhen, "c", "true", b)))
	}
	apart(t, ahead...)
	apart(t, call(1, a, part(api.ExAt, b, c)), part(api.ExAt, call(1, a, b), c), call(1, part(api.ExAt, a, c), b))
	apart(t, clocked(api.ExMerge, "a", "A", clocked(api.ExMerge, "b", "B C", c, d)), clocked(api.ExMerge, "a", "A C", clocked(api.ExMerge, "b", "B", c), d))
	apart(t, part(api.ExArr, part(api.ExArr, a, b), c), part(api.ExArr, a, part(api.ExArr, b, c)), part(api.ExArr, part(api.ExArr, a, b, c)), part(api.ExArr, a, b, c))
	apart(t, call(0, call(0, a, b), c), call(0, a, call(0, b, c)), call(0, call(0, a, b, c)), call(0, a, b, c), call(0, call(0, a), b, c))
}

// orders tells with every order of l.
func orders(l []api.Expr, tell func([]api.Expr)) {
	var next func(ahead, left []api.Expr)
	next = func(ahead, left []api.Expr) {
		if len(left) == 0 {
			tell(ahead)
		}
		for i, e := range left {
			next(append(slices.Clip(ahead), e), slices.Delete(slices.Clone(left), i, i+1))
		}
	}
	next(nil, l)
}

// P10.2: what differs in the order of its Subs, or of its arms, has two texts.
func TestOrders(t *testing.T) {
	var l []api.Expr
	n := 0
	orders(vars("a b c"), func(subs []api.Expr) {
		n++
		l = append(l, part(api.ExIf, subs...), part(api.ExSet, subs...), part(api.ExArr, subs...), call(0, subs...), call(1, subs...), clocked(api.ExMerge, "a", "A true false", subs...))
	})
	orders(vars("true false B"), func(names []api.Expr) {
		var arms []string
		for _, e := range names {
			arms = append(arms, e.Name)
		}
		l = append(l, clocked(api.ExMerge, "a", strings.Join(arms, " "), vars("x y z")...))
	})
	for op := api.OpAdd; op <= api.OpGe; op++ {
		l = append(l, operation(op, vars("a b")...), operation(op, vars("b a")...))
	}
	l = append(l, part(api.ExArrow, vars("a b")...), part(api.ExArrow, vars("b a")...), part(api.ExAt, vars("a b")...), part(api.ExAt, vars("b a")...))
	apart(t, l...)
	if n != 6 {
		t.Errorf("%d orders", n)
	}
}

// P10.2: what is the same has one text, whichever lists are none and whichever empty.
func TestOneText(t *testing.T) {
	for _, e := range append(buriedAll(), inAll()) {
		want := show.Expr(e)
		for place := range places(e) {
			f := changed(e, place, func(p *api.Expr) { *p = filled(*p) })
			g := changed(filled(e), place, func(p *api.Expr) { *p = copied(*p) })
			if a, b := show.Expr(f), show.Expr(g); want == "" || a != want || b != want {
				t.Errorf("%q, %q, not %q", a, b, want)
			}
		}
		if got := show.Expr(e); got != want {
			t.Errorf("again: %q, not %q", got, want)
		}
	}
}

// P10.2: of what chance grows, and of what comes of it by one change, no two have one text.
func TestGrownApart(t *testing.T) {
	r := rand.New(rand.NewPCG(30, 10))
	l := told{}
	for range 2000 {
		left := 50
		e := grow(r, 1+r.IntN(12), &left)
		l.add(t, e)
		for range 20 {
			place := r.IntN(places(e))
			d := differ(at(e, place))
			l.add(t, changed(e, place, d[r.IntN(len(d))]))
		}
	}
	if len(l) < 5000 {
		t.Errorf("%d have a text", len(l))
	}
}
