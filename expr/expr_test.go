package expr_test

import (
	"fmt"
	"iter"
	"math"
	"reflect"
	"slices"
	"strconv"
	"strings"
	"testing"

	"noria/api"
	"noria/expr"
)

// of is an expression of a kind, with these Subs and nothing else.
func of(kind int, subs ...api.Expr) api.Expr {
	return api.Expr{Kind: kind, Subs: subs}
}

func num(n int64) api.Expr {
	return api.Expr{Kind: api.ExNum, N: n}
}

func truth(n int64) api.Expr {
	return api.Expr{Kind: api.ExBool, N: n}
}

func named(kind int, name string) api.Expr {
	return api.Expr{Kind: kind, Name: name}
}

func variable(name string) api.Expr {
	return named(api.ExVar, name)
}

func ctor(name string) api.Expr {
	return named(api.ExCtor, name)
}

func un(op int, a api.Expr) api.Expr {
	return api.Expr{Kind: api.ExUn, Op: op, Subs: []api.Expr{a}}
}

func bin(op int, a, b api.Expr) api.Expr {
	return api.Expr{Kind: api.ExBin, Op: op, Subs: []api.Expr{a, b}}
}

func when(a api.Expr, name, arm string) api.Expr {
	return api.Expr{Kind: api.ExWhen, Name: name, Arms: []string{arm}, Subs: []api.Expr{a}}
}

func merge(name string, arms []string, subs ...api.Expr) api.Expr {
	return api.Expr{Kind: api.ExMerge, Name: name, Arms: arms, Subs: subs}
}

func call(n int64, name string, subs ...api.Expr) api.Expr {
	return api.Expr{Kind: api.ExCall, N: n, Name: name, Subs: subs}
}

// many are n variables, each with a name of its own.
func many(n int) []api.Expr {
	l := []api.Expr{}
	for i := range n {
		l = append(l, variable("v"+strconv.Itoa(i)))
	}
	return l
}

// upto are n arms.
func upto(n int) []string {
	return strings.Fields("Up Down true A_1 false Zz09_ Left Right")[:n]
}

// sum is the chapter's example: a + 1.
func sum() api.Expr {
	return bin(api.OpAdd, variable("a"), num(1))
}

// samples are right expressions, at least one of each kind.
func samples() []api.Expr {
	a, b, c := variable("a"), variable("b"), variable("abcdefghijkl")
	return []api.Expr{
		num(0), num(1), num(math.MaxInt64), truth(0), truth(1),
		a, variable("x9_"), ctor("A"), ctor("Node"), named(api.ExOld, "a"), named(api.ExOld, "a/b.12"),
		un(api.OpNeg, num(1)), un(api.OpNot, a), sum(), bin(api.OpGe, a, a), bin(api.OpXor, truth(1), b),
		of(api.ExIf, a, b, c), of(api.ExIf, truth(0), num(1), num(2)),
		of(api.ExFby, num(0), a), of(api.ExFby, truth(1), b), of(api.ExFby, ctor("Up"), a), of(api.ExFby, un(api.OpNeg, num(2)), a),
		of(api.ExFby, of(api.ExArr, num(0), un(api.OpNeg, num(1))), a),
		of(api.ExArrow, a, b), of(api.ExPre, a), when(a, "b", "Up"), when(a, "b", "true"), when(num(1), "c", "false"),
		merge("a", upto(1), b), merge("a", upto(2), b, c), merge("a", upto(6), many(6)...),
		call(0, "f"), call(0, "f", a), call(0, "f", many(6)...), call(1, "f", a), call(1, "f", a, b), call(1, "f", many(7)...),
		of(api.ExArr, a), of(api.ExArr, many(8)...), of(api.ExAt, a, num(1)), of(api.ExSet, a, num(1), b),
	}
}

// all has all kinds in one another, of most kinds with parts in the parts.
func all() api.Expr {
	first := of(api.ExArr, un(api.OpNeg, num(1)), num(2), ctor("Up"))
	held := of(api.ExFby, first, of(api.ExPre, variable("held")))
	there := when(of(api.ExArrow, held, of(api.ExArr, truth(1), bin(api.OpMod, variable("a"), num(3)))), "way", "Down")
	set := of(api.ExSet, there, un(api.OpNot, variable("b")), named(api.ExOld, "a/b.12"))
	back := call(1, "f", of(api.ExAt, set, num(0)), of(api.ExIf, variable("c"), variable("a"), call(0, "g")))
	return merge("way", []string{"Up", "false"}, back, when(variable("a"), "b", "true"))
}

// cut is the beginning of what v is told as.
func cut(v any) string {
	s := fmt.Sprintf("%+v", v)
	return s[:min(len(s), 600)]
}

// parts are e's parts, an expression ahead of its Subs' parts, kept in a list of what is still ahead.
func parts(e api.Expr) []api.Expr {
	var l []api.Expr
	for ahead := []api.Expr{e}; len(ahead) > 0; {
		p := ahead[len(ahead)-1]
		ahead = ahead[:len(ahead)-1]
		l = append(l, p)
		for _, s := range slices.Backward(p.Subs) {
			ahead = append(ahead, s)
		}
	}
	return l
}

// levels tells how many levels e has, counted level by level.
func levels(e api.Expr) int {
	n := 0
	for level := []api.Expr{e}; len(level) > 0; n++ {
		var next []api.Expr
		for _, p := range level {
			next = append(next, p.Subs...)
		}
		level = next
	}
	return n
}

// changed is a copy of e, whose part at a place of Each's order is changed.
func changed(e api.Expr, at int, change func(*api.Expr)) api.Expr {
	e.Arms, e.Subs = slices.Clone(e.Arms), slices.Clone(e.Subs)
	if at == 0 {
		change(&e)
		return e
	}
	at--
	for i, s := range e.Subs {
		n := len(parts(s))
		if at < n {
			e.Subs[i] = changed(s, at, change)
			return e
		}
		at -= n
	}
	panic("no such part")
}

// copied is a copy of e that shares nothing with it.
func copied(e api.Expr) api.Expr {
	e.Arms = slices.Clone(e.Arms)
	e.Subs = slices.Clone(e.Subs)
	for i, s := range e.Subs {
		e.Subs[i] = copied(s)
	}
	return e
}

// empty is a copy of e that has an empty list wherever e has none at all.
func empty(e api.Expr) api.Expr {
	e.Arms = append([]string{}, e.Arms...)
	subs := []api.Expr{}
	for _, s := range e.Subs {
		subs = append(subs, empty(s))
	}
	e.Subs = subs
	return e
}

// none is a copy of e that has no list at all wherever e has an empty one.
func none(e api.Expr) api.Expr {
	e.Arms = append([]string(nil), e.Arms...)
	var subs []api.Expr
	for _, s := range e.Subs {
		subs = append(subs, none(s))
	}
	e.Subs = subs
	return e
}

// asks holds what a call tells of e against want: of e as it is, with empty lists and with none; it changes none of them.
func asks(t *testing.T, name string, tell func(api.Expr) bool, e api.Expr, want bool) {
	t.Helper()
	for _, f := range []api.Expr{e, empty(e), none(e)} {
		as := copied(f)
		if tell(f) != want {
			t.Errorf("%s of %s is %v", name, cut(f), !want)
		}
		if !reflect.DeepEqual(f, as) {
			t.Errorf("%s of %s has changed it", name, cut(as))
		}
	}
}

// gone are the parts that a range over each tells.
func gone(each iter.Seq[api.Expr]) []api.Expr {
	var l []api.Expr
	for p := range each {
		l = append(l, p)
	}
	return l
}

// equal tells whether two lists of parts are the same; nil and empty ones in them are.
func equal(a, b []api.Expr) bool {
	return slices.EqualFunc(a, b, func(p, q api.Expr) bool { return reflect.DeepEqual(none(p), none(q)) })
}

// tells holds Size, Depth, Each and Vars of e against what is counted beside them.
func tells(t *testing.T, e api.Expr) {
	t.Helper()
	as := copied(e)
	l := parts(e)
	if n := expr.Size(e); n != len(l) {
		t.Errorf("Size of %s is %d, not %d", cut(e), n, len(l))
	}
	if n := expr.Depth(e); n != levels(e) {
		t.Errorf("Depth of %s is %d, not %d", cut(e), n, levels(e))
	}
	if g := gone(expr.Each(e)); !equal(g, l) {
		t.Errorf("Each of %s: %s, not %s", cut(e), cut(g), cut(l))
	}
	var names []string
	for _, p := range l {
		if p.Kind == 3 || p.Kind == 11 || p.Kind == 12 {
			names = append(names, p.Name)
		}
	}
	if v := expr.Vars(e); !slices.Equal(v, names) {
		t.Errorf("Vars of %s: %q, not %q", cut(e), v, names)
	}
	if !reflect.DeepEqual(e, as) {
		t.Errorf("%s was changed", cut(as))
	}
}

// The chapter's example.
func TestExample(t *testing.T) {
	e := sum()
	if n, d, v := expr.Size(e), expr.Depth(e), expr.Vars(e); n != 3 || d != 2 || !slices.Equal(v, []string{"a"}) {
		t.Errorf("a + 1: %d, %d, %q", n, d, v)
	}
	if l := gone(expr.Each(e)); !equal(l, []api.Expr{e, variable("a"), num(1)}) {
		t.Errorf("parts of a + 1: %s", cut(l))
	}
	right(t, e, true)
}

// The limits are those of the document: where a test has them as numbers, they are these.
func TestLimits(t *testing.T) {
	if api.MaxTerms != 60 || api.MaxDepth != 12 || api.MaxCtors != 6 || api.MaxPorts != 6 || api.MaxArray != 8 {
		t.Fatal("other limits")
	}
}

// P9.1, P9.3: Size, Depth, Each and Vars of each kind, and of all in one another.
func TestKinds(t *testing.T) {
	seen := map[int]bool{}
	for _, e := range append(samples(), all()) {
		seen[e.Kind] = true
		tells(t, e)
		tells(t, empty(e))
		tells(t, none(e))
	}
	inAll := map[int]bool{}
	for _, p := range parts(all()) {
		inAll[p.Kind] = true
	}
	for kind := 1; kind <= 17; kind++ {
		if !seen[kind] || !inAll[kind] {
			t.Errorf("kind %d is not tried", kind)
		}
	}
	if v := expr.Vars(all()); !slices.Equal(v, []string{"way", "way", "held", "a", "b", "c", "a", "b", "a"}) {
		t.Errorf("Vars of all kinds: %q", v)
	}
	if n, d := expr.Size(all()), expr.Depth(all()); n != 29 || d != 10 {
		t.Errorf("all kinds: %d, %d", n, d)
	}
}

// P9.3: Vars tells the names of variables, of ExWhen and of ExMerge, each as often as it stands there, and no others.
func TestVars(t *testing.T) {
	a, b := variable("a"), variable("b")
	others := call(1, "f", ctor("A"), named(api.ExOld, "a/b"), num(1), truth(1), un(api.OpNeg, num(1)))
	is := func(e api.Expr, want ...string) {
		t.Helper()
		if v := expr.Vars(e); !slices.Equal(v, want) {
			t.Errorf("Vars of %s: %q, not %q", cut(e), v, want)
		}
		tells(t, e)
	}
	is(a, "a")
	is(bin(api.OpAdd, a, a), "a", "a")
	is(bin(api.OpAdd, bin(api.OpAdd, b, a), b), "b", "a", "b")
	is(when(when(a, "b", "A"), "a", "true"), "a", "b", "a")
	is(merge("a", upto(3), when(b, "a", "Up"), a, merge("c", upto(1), a)), "a", "a", "b", "a", "c", "a")
	is(others)
	is(of(api.ExArr, others, a, others), "a")
	is(api.Expr{})
	// What is not right names as well.
	is(of(api.ExVar, when(variable("if"), "", "A"), merge("A b", nil)), "", "", "if", "A b")
	for kind := -1; kind <= 18; kind++ {
		if e := named(kind, "a"); kind == 3 || kind == 11 || kind == 12 {
			is(e, "a")
		} else {
			is(e)
		}
	}
}

// P9.1: an expression without Subs is its only part.
func TestNoSubs(t *testing.T) {
	for _, e := range []api.Expr{{}, {Subs: []api.Expr{}}, num(0), of(api.ExArr), of(-1), {Kind: 18, Name: "a", Arms: []string{"A"}}} {
		tells(t, e)
		if expr.Size(e) != 1 || expr.Depth(e) != 1 || len(gone(expr.Each(e))) != 1 {
			t.Errorf("%s has %d parts, %d deep", cut(e), expr.Size(e), expr.Depth(e))
		}
	}
}

// shapes calls do with trees of all shapes of up to that many parts; a tree is told by a list of how many Subs its parts have.
func shapes(most int, do func(api.Expr)) {
	var grow func(counts []int, open int)
	grow = func(counts []int, open int) {
		if open == 0 {
			do(shaped(counts))
			return
		}
		for n := 0; len(counts)+open+n <= most; n++ {
			grow(append(slices.Clip(counts), n), open-1+n)
		}
	}
	grow(nil, 1)
}

// shaped is the tree of such a list; each part's N is its place.
func shaped(counts []int) api.Expr {
	at := 0
	var next func() api.Expr
	next = func() api.Expr {
		e := api.Expr{Kind: api.ExVar + at%3, N: int64(at), Name: strconv.Itoa(at)}
		n := counts[at]
		at++
		for range n {
			e.Subs = append(e.Subs, next())
		}
		return e
	}
	return next()
}

// P9.1: of trees of all shapes Each tells the parts in their order.
func TestShapes(t *testing.T) {
	n := 0
	shapes(8, func(e api.Expr) {
		n++
		tells(t, e)
		for i, p := range gone(expr.Each(e)) {
			if p.N != int64(i) {
				t.Errorf("the part at %d of %s is %s", i, cut(e), cut(p))
			}
		}
	})
	if n != 1+1+2+5+14+42+132+429 {
		t.Errorf("%d shapes", n)
	}
}

// ended asks that each, left behind n parts, has told the first n of l, and no more.
func ended(t *testing.T, each iter.Seq[api.Expr], l []api.Expr, n int) {
	t.Helper()
	var told []api.Expr
	for p := range each {
		told = append(told, p)
		if len(told) == n {
			break
		}
	}
	if !equal(told, l[:n]) {
		t.Errorf("left behind %d parts: %s", n, cut(told))
	}
	calls := 0
	each(func(api.Expr) bool {
		calls++
		return calls < n
	})
	if calls != n {
		t.Errorf("left behind %d parts, %d are told", n, calls)
	}
}

// P9.1: Each can be left behind every part, gone through again, and inside itself.
func TestEachLeft(t *testing.T) {
	for _, e := range append(samples(), all()) {
		each, l := expr.Each(e), parts(e)
		for n := 1; n <= len(l); n++ {
			ended(t, each, l, n)
		}
		for range 2 {
			if g := gone(each); !equal(g, l) {
				t.Errorf("gone through again: %s", cut(g))
			}
		}
	}
}

// P9.1: Each can be gone through inside itself, and left there, too.
func TestEachInside(t *testing.T) {
	for _, e := range append(samples(), all()) {
		each, l := expr.Each(e), parts(e)
		var outer []api.Expr
		for p := range each {
			outer = append(outer, p)
			if g := gone(each); !equal(g, l) {
				t.Errorf("gone through inside: %s", cut(g))
			}
			ended(t, each, l, len(outer))
			if g := gone(expr.Each(p)); !equal(g, parts(p)) {
				t.Errorf("a part's parts: %s", cut(g))
			}
		}
		if !equal(outer, l) {
			t.Errorf("gone through around others: %s", cut(outer))
		}
		if n := leftTwice(each); n != 1 {
			t.Errorf("left from within: %d", n)
		}
	}
}

// leftTwice leaves two ranges at once, at the first part.
func leftTwice(each iter.Seq[api.Expr]) int {
	for range each {
		for range each {
			return 1
		}
	}
	return 0
}

// P9.1: where Each ends is the one who asks; what the asking panics with goes through.
func TestEachPanics(t *testing.T) {
	defer func() {
		if r := recover(); r != "enough" {
			t.Errorf("recovered: %v", r)
		}
	}()
	for p := range expr.Each(all()) {
		if p.Kind == api.ExOld {
			panic("enough")
		}
	}
}

// nested is a chain of n parts.
func nested(n int, last api.Expr) api.Expr {
	e := last
	for range n - 1 {
		e = of(api.ExPre, e)
	}
	return e
}

// P9.1: 2^16 parts in one another, and a million beside one another.
func TestDeepAndWide(t *testing.T) {
	const deep = 1 << 16
	e := nested(deep, variable("a"))
	if n, d, v := expr.Size(e), expr.Depth(e), expr.Vars(e); n != deep || d != deep || !slices.Equal(v, []string{"a"}) {
		t.Errorf("nested: %d, %d, %q", n, d, v)
	}
	if expr.Right(e) || !expr.Same(e, nested(deep, variable("a"))) || expr.Same(e, nested(deep, variable("b"))) || expr.Same(e, nested(deep-1, variable("a"))) {
		t.Error("nested: right, or same as others")
	}
	last := api.Expr{}
	for p := range expr.Each(e) {
		last = p
	}
	if last.Name != "a" || expr.Const(e) {
		t.Error("nested: the last part, or a constant")
	}
	const wide = 1 << 20
	w := of(api.ExArr, many(wide)...)
	if n, d, v := expr.Size(w), expr.Depth(w), expr.Vars(w); n != wide+1 || d != 2 || len(v) != wide || v[wide-1] != "v1048575" {
		t.Errorf("wide: %d, %d, %d", n, d, len(v))
	}
	if expr.Right(w) || expr.Const(w) || !expr.Same(w, w) || expr.Same(w, of(api.ExArr, w.Subs[1:]...)) {
		t.Error("wide: right, constant, or same as others")
	}
}

// doubled has two parts, each of which has two, and so on: 2^n - 1 parts.
func doubled(n int) api.Expr {
	e := num(1)
	for range n - 1 {
		e = bin(api.OpAdd, e, e)
	}
	return e
}

// P9.1, P9.2: what is not asked for is not gone through, however much is behind it.
func TestSoonLeft(t *testing.T) {
	e := doubled(64)
	n := 0
	for range expr.Each(e) {
		n++
		if n == 1000 {
			break
		}
	}
	if n != 1000 || expr.Right(e) || expr.Const(e) {
		t.Error("of very many parts")
	}
	for n, size := 1, 1; n <= 12; n, size = n+1, 2*size+1 {
		if e := doubled(n); expr.Size(e) != size || expr.Depth(e) != n || expr.Right(e) != (n <= 5) {
			t.Errorf("doubled %d: %d, %d, %v", n, expr.Size(e), expr.Depth(e), expr.Right(e))
		}
	}
}
