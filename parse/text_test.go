package parse_test

import (
	"math"
	"math/rand/v2"
	"strings"
	"testing"

	"noria/api"
	"noria/expr"
	"noria/parse"
	"noria/show"
)

// back asks that s is read as e.
func back(t *testing.T, e api.Expr, s string) {
	t.Helper()
	f, n, err := parse.Expr(s)
	if !expr.Same(e, f) || n != len(s) || err != api.OK {
		t.Errorf("%q is read as %q, %d, %d, not as %q", s, show.Expr(f), n, err, show.Expr(e))
	}
	l := tokens(t, s)
	f, n, err = parse.Part(l, 0)
	if !expr.Same(e, f) || n != len(l)-1 || err != api.OK {
		t.Errorf("%q is read as %q, %d, %d, not as %q", some(l), show.Expr(f), n, err, show.Expr(e))
	}
}

// The levels, as the grammar has them. A call with a reset has one of its own: behind a post there may stand what is none of the call.
const (
	arrow = iota
	fby
	or
	and
	cmp
	sum
	prod
	un
	every
	post
)

// level is that of e's line.
func level(e api.Expr) int {
	switch {
	case e.Kind == api.ExArrow:
		return arrow
	case e.Kind == api.ExFby:
		return fby
	case e.Kind == api.ExUn || e.Kind == api.ExPre:
		return un
	case e.Kind == api.ExBin:
		return []int{sum, sum, prod, prod, prod, and, or, or, cmp, cmp, cmp, cmp, cmp, cmp}[e.Op-api.OpAdd]
	case e.Kind == api.ExCall && e.N == 1:
		return every
	}
	return post
}

// plain tells e with blanks between its tokens, without brackets where none are needed: at is the level that is asked for there, and open tells that something stands behind with which an if would go on.
// Where chance is there, it puts brackets around what needs none.
func plain(e api.Expr, at int, open bool, chance *rand.Rand) string {
	if level(e) < at || open && e.Kind == api.ExIf || chance != nil && chance.IntN(5) == 0 {
		return "( " + plain(e, arrow, false, chance) + " )"
	}
	in := func(i, at int, open bool) string { return plain(e.Subs[i], at, open, chance) }
	all := func(n int) string {
		var l []string
		for i := range n {
			l = append(l, in(i, arrow, false))
		}
		return strings.Join(l, " , ")
	}
	own := level(e)
	switch n := len(e.Subs); e.Kind {
	case api.ExUn:
		return []string{"- ", "not "}[e.Op-1] + in(0, un, open)
	case api.ExBin:
		sign := strings.Fields("+ - * / mod and or xor = <> < <= > >=")[e.Op-api.OpAdd]
		if own == cmp {
			return in(0, sum, true) + " " + sign + " " + in(1, sum, open)
		}
		return in(0, own, true) + " " + sign + " " + in(1, own+1, open)
	case api.ExIf:
		return "if " + in(0, arrow, false) + " then " + in(1, arrow, false) + " else " + in(2, arrow, false)
	case api.ExFby:
		return in(0, or, true) + " fby " + in(1, fby, open)
	case api.ExArrow:
		return in(0, fby, true) + " -> " + in(1, arrow, open)
	case api.ExPre:
		return "pre " + in(0, un, open)
	case api.ExWhen:
		return in(0, post, true) + " when " + strings.NewReplacer("(", " ( ", ")", " ) ").Replace(show.On(e.Name, e.Arms[0]))
	case api.ExMerge:
		s := "merge " + e.Name
		for i, arm := range e.Arms {
			s += " ( " + arm + " -> " + in(i, arrow, false) + " )"
		}
		return s
	case api.ExCall:
		if e.N == 1 {
			return e.Name + " ( " + all(n-1) + " ) every " + in(n-1, every, open)
		}
		return e.Name + " ( " + all(n) + " )"
	case api.ExArr:
		return "[ " + all(n) + " ]"
	case api.ExAt:
		return in(0, post, true) + " [ " + in(1, arrow, false) + " ]"
	case api.ExSet:
		return "( " + in(0, arrow, false) + " with [ " + in(1, arrow, false) + " ] = " + in(2, arrow, false) + " )"
	}
	return show.Expr(e)
}

// spread puts blanks of all sorts between the words of s, and none beside some brackets and commas.
func spread(s string, chance *rand.Rand) string {
	words := strings.Fields(s)
	all := words[0]
	for i, word := range words[1:] {
		blanks := []string{" ", "\n", "\t\r ", " -- a)\n", " --\n"}
		if strings.ContainsAny(words[i]+word, "()[],") {
			blanks = append(blanks, "", "", "", "")
		}
		all += blanks[chance.IntN(len(blanks))] + word
	}
	return all
}

// asked asks that e is read from its text, and from those that have fewer brackets, and more, if no text is too long.
func asked(t *testing.T, e api.Expr, chance *rand.Rand) {
	t.Helper()
	if !expr.Right(e) {
		t.Fatalf("%+v is not right", e)
	}
	few := plain(e, arrow, false, nil)
	for _, s := range []string{show.Expr(e), few, spread(few, chance), spread(plain(e, arrow, false, chance), chance)} {
		if len(s) <= api.MaxText {
			back(t, e, s)
		}
	}
}

// heads are right parts of all sorts that have n Subs, but without these.
func heads(n int) []api.Expr {
	arms := strings.Fields("A true B_1 false Up ABCDEFGHIJKL")
	var l []api.Expr
	add := func(kind int, e api.Expr) {
		e.Kind = kind
		l = append(l, e)
	}
	switch n {
	case 0:
		for _, number := range []int64{0, 1, 10, math.MaxInt32, math.MaxInt32 + 1, math.MaxInt64 - 1, math.MaxInt64} {
			add(api.ExNum, api.Expr{N: number})
		}
		for _, name := range strings.Fields("a not_ x9 abcdefghijkl A True ABCDEFGHIJ_9 a/b.12 abcdefghijkl.999/nodes.1/abcdefghijkl") {
			if kind := api.ExOld; strings.Contains(name, "/") {
				add(kind, api.Expr{Name: name})
			} else if name[0] >= 'a' {
				add(kind, api.Expr{Name: name})
				add(api.ExVar, api.Expr{Name: name})
			} else {
				add(api.ExCtor, api.Expr{Name: name})
			}
		}
		add(api.ExBool, api.Expr{})
		add(api.ExBool, api.Expr{N: 1})
	case 1:
		add(api.ExUn, api.Expr{Op: api.OpNeg})
		add(api.ExUn, api.Expr{Op: api.OpNot})
		add(api.ExPre, api.Expr{})
		for _, arm := range arms[:4] {
			add(api.ExWhen, api.Expr{Name: "c", Arms: []string{arm}})
		}
	case 2:
		for op := api.OpAdd; op <= api.OpGe; op++ {
			add(api.ExBin, api.Expr{Op: op})
		}
		add(api.ExFby, api.Expr{})
		add(api.ExArrow, api.Expr{})
		add(api.ExAt, api.Expr{})
	case 3:
		add(api.ExIf, api.Expr{})
		add(api.ExSet, api.Expr{})
	}
	if 1 <= n && n <= api.MaxCtors {
		add(api.ExMerge, api.Expr{Name: "c", Arms: arms[:n]})
		add(api.ExMerge, api.Expr{Name: "abcdefghijkl", Arms: arms[6-n:]})
	}
	if n <= api.MaxPorts {
		add(api.ExCall, api.Expr{Name: "f"})
	}
	if 1 <= n && n <= api.MaxPorts+1 {
		add(api.ExCall, api.Expr{Name: "abcdefghijkl", N: 1})
	}
	if 1 <= n && n <= api.MaxArray {
		add(api.ExArr, api.Expr{})
	}
	return l
}

// with is a head with p as the at-th of its n Subs; the others are leaves, the first of an ExFby a constant.
func with(head api.Expr, n, at int, p api.Expr) api.Expr {
	for i := range n {
		sub := api.Expr{Kind: api.ExVar, Name: string(rune('a' + i))}
		if head.Kind == api.ExFby && i == 0 {
			sub = api.Expr{Kind: api.ExNum, N: 1}
		}
		if i == at {
			sub = p
		}
		head.Subs = append(head.Subs, sub)
	}
	return head
}

// outer tells with all that have p as one of their Subs and are right, of up to most Subs.
func outer(p api.Expr, most int, tell func(api.Expr)) {
	for n := 1; n <= most; n++ {
		for _, head := range heads(n) {
			for at := range n {
				if e := with(head, n, at, p); expr.Right(e) {
					tell(e)
				}
			}
		}
	}
}

// P11.3: parts of all sorts, alone and in one another at each place.
func TestTexts(t *testing.T) {
	chance := rand.New(rand.NewPCG(11, 1))
	for n := range 9 {
		for _, head := range heads(n) {
			e := with(head, n, -1, api.Expr{})
			asked(t, e, chance)
			outer(e, 8, func(e api.Expr) { asked(t, e, chance) })
		}
	}
}

// P11.3: so with three of those that go on with what stands behind, or that something stands ahead of.
func TestThree(t *testing.T) {
	chance := rand.New(rand.NewPCG(11, 2))
	for n := 1; n <= 3; n++ {
		for _, head := range heads(n) {
			outer(with(head, n, -1, api.Expr{}), 3, func(e api.Expr) {
				outer(e, 3, func(e api.Expr) {
					// All of them are too many; which are left out is told by chance.
					if chance.IntN(5) == 0 {
						back(t, e, plain(e, arrow, false, nil))
					}
				})
			})
		}
	}
}

// first is a constant that chance tells.
func first(chance *rand.Rand) api.Expr {
	number := api.Expr{Kind: api.ExNum, N: chance.Int64() >> chance.IntN(63)}
	l := []api.Expr{number, {Kind: api.ExUn, Op: api.OpNeg, Subs: []api.Expr{number}}, {Kind: api.ExBool, N: 1}, {Kind: api.ExCtor, Name: "Up"}}
	if chance.IntN(4) == 0 {
		return api.Expr{Kind: api.ExArr, Subs: l[:1+chance.IntN(4)]}
	}
	return l[chance.IntN(4)]
}

// grown is what chance makes: at most that deep, and with no more than *left parts beside the first one, but for constants.
func grown(chance *rand.Rand, depth int, left *int) api.Expr {
	n := 0
	if depth > 1 && *left > 0 {
		n = min(chance.IntN(9), chance.IntN(9), *left)
	}
	*left -= n
	l := heads(n)
	e := l[chance.IntN(len(l))]
	for i := range n {
		if e.Kind == api.ExFby && i == 0 {
			e.Subs = append(e.Subs, first(chance))
		} else {
			e.Subs = append(e.Subs, grown(chance, depth-1, left))
		}
	}
	return e
}

// P11.3: what chance makes, up to MaxTerms parts and MaxDepth.
func TestGrown(t *testing.T) {
	chance := rand.New(rand.NewPCG(11, 3))
	great, deep, kinds := map[int]int{}, map[int]int{}, map[int]int{}
	for range 3000 {
		left := 59
		e := grown(chance, 1+chance.IntN(12), &left)
		if !expr.Right(e) {
			continue
		}
		asked(t, e, chance)
		great[expr.Size(e)]++
		deep[expr.Depth(e)]++
		for p := range expr.Each(e) {
			kinds[p.Kind]++
		}
	}
	if great[api.MaxTerms] < 10 || deep[api.MaxDepth] < 10 || len(kinds) != api.ExOld {
		t.Errorf("great %v, deep %v, kinds %v", great, deep, kinds)
	}
}

// P11.3: all numbers of one digit but noughts, all those beside a power of two, and names and paths of all lengths.
func TestLeaves(t *testing.T) {
	chance := rand.New(rand.NewPCG(11, 4))
	number := func(n int64) { asked(t, api.Expr{Kind: api.ExNum, N: n}, chance) }
	for n := int64(1); n < math.MaxInt64/10; n *= 10 {
		for digit := range int64(10) {
			number(n * digit)
		}
	}
	for bits := range 63 {
		number(1<<bits - 1)
		number(1 << bits)
		number(1<<bits + 1)
	}
	number(math.MaxInt64)
	for n := 1; n <= api.MaxName; n++ {
		low, high := strings.Repeat("x", n), "A"+strings.Repeat("_", n-1)
		e := api.Expr{Kind: api.ExCall, Name: low, Subs: []api.Expr{{Kind: api.ExVar, Name: low}, {Kind: api.ExCtor, Name: high}, {Kind: api.ExOld, Name: low}}}
		asked(t, e, chance)
		asked(t, api.Expr{Kind: api.ExWhen, Name: low, Arms: []string{high}, Subs: []api.Expr{e}}, chance)
		asked(t, api.Expr{Kind: api.ExMerge, Name: low, Arms: []string{high}, Subs: []api.Expr{e}}, chance)
	}
	for n := 1; n <= api.MaxText-2; n += 1 + n/100 {
		asked(t, old(n), chance)
	}
}

// old is an ExOld of a path that has so many bytes.
func old(n int) api.Expr {
	path := strings.Repeat("a/", (n-1)/2) + "a"
	if n%2 == 0 {
		path = "b" + path
	}
	return api.Expr{Kind: api.ExOld, Name: path}
}

// P11.3: a text of just MaxText bytes is read, one of more is not.
func TestLongest(t *testing.T) {
	deep := func(n int) api.Expr {
		e := old(n)
		for range 11 {
			e = api.Expr{Kind: api.ExUn, Op: api.OpNot, Subs: []api.Expr{e}}
		}
		return e
	}
	back(t, old(5998), show.Expr(old(5998)))
	noExpr(t, show.Expr(old(5999)), 6000, api.ErrLong)
	back(t, deep(5998-66), show.Expr(deep(5998-66)))
	noExpr(t, show.Expr(deep(5999-66)), 6000, api.ErrLong)
	for _, e := range []api.Expr{old(5999), deep(5999 - 66), old(60000)} {
		l := tokens(t, show.Expr(e))
		f, n, err := parse.Part(l, 0)
		if !expr.Same(e, f) || n != len(l)-1 || err != api.OK {
			t.Errorf("Part of %d tokens: %d, %d", len(l), n, err)
		}
	}
}
