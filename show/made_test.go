package show_test

import (
	"math/rand/v2"
	"slices"
	"strings"

	"noria/api"
)

// part is a part of a kind with these Subs, and nothing else.
func part(kind int, subs ...api.Expr) api.Expr {
	return api.Expr{Kind: kind, Subs: subs}
}

// number is an ExNum.
func number(n int64) api.Expr {
	return api.Expr{Kind: api.ExNum, N: n}
}

// truth is an ExBool.
func truth(n int64) api.Expr {
	return api.Expr{Kind: api.ExBool, N: n}
}

// leaf is a part that is nothing but a name.
func leaf(kind int, name string) api.Expr {
	return api.Expr{Kind: kind, Name: name}
}

// vars are variables, by their names with blanks between.
func vars(names string) []api.Expr {
	var l []api.Expr
	for _, name := range strings.Fields(names) {
		l = append(l, leaf(api.ExVar, name))
	}
	return l
}

// operation is an ExUn or an ExBin, as many sides as there are.
func operation(op int, sides ...api.Expr) api.Expr {
	return api.Expr{Kind: api.ExUn + len(sides) - 1, Op: op, Subs: sides}
}

// clocked is an ExWhen or an ExMerge; its arms stand with blanks between.
func clocked(kind int, name, arms string, subs ...api.Expr) api.Expr {
	return api.Expr{Kind: kind, Name: name, Arms: strings.Fields(arms), Subs: subs}
}

// call is an ExCall of f.
func call(n int64, subs ...api.Expr) api.Expr {
	return api.Expr{Kind: api.ExCall, N: n, Name: "f", Subs: subs}
}

// inAll has all kinds in one another, and allText is its text.
func inAll() api.Expr {
	first := part(api.ExArr, operation(api.OpNeg, number(1)), number(2), leaf(api.ExCtor, "Up"))
	held := part(api.ExFby, first, part(api.ExPre, leaf(api.ExVar, "held")))
	later := part(api.ExArr, truth(1), operation(api.OpMod, leaf(api.ExVar, "a"), number(3)))
	there := clocked(api.ExWhen, "way", "Down", part(api.ExArrow, held, later))
	set := part(api.ExSet, there, operation(api.OpNot, leaf(api.ExVar, "b")), leaf(api.ExOld, "a/b.12"))
	back := call(1, part(api.ExAt, set, number(0)), part(api.ExIf, append(vars("c a"), call(0))...))
	return clocked(api.ExMerge, "way", "Up false", back, clocked(api.ExWhen, "b", "true", truth(0)))
}

const allText = "(merge way" +
	" (Up -> (f((((([(-1), 2, Up] fby (pre held)) -> [true, (a mod 3)]) when Down(way)) with [(not b)] = 'a/b.12')[0]) every (if c then a else f())))" +
	" (false -> (false when b)))"

// heads are right parts of all kinds that have n Subs, but without these.
func heads(n int) []api.Expr {
	arms := []string{"A", "true", "B", "false", "C", "D"}
	var l []api.Expr
	switch n {
	case 0:
		l = []api.Expr{number(0), number(12), truth(0), truth(1), leaf(api.ExVar, "a"), leaf(api.ExCtor, "A"), leaf(api.ExOld, "a"), leaf(api.ExOld, "a/a.1")}
	case 1:
		l = []api.Expr{part(api.ExPre), {Kind: api.ExUn, Op: api.OpNeg}, {Kind: api.ExUn, Op: api.OpNot}}
		for _, arm := range []string{"true", "false", "A"} {
			l = append(l, clocked(api.ExWhen, "a", arm))
		}
	case 2:
		l = []api.Expr{part(api.ExFby), part(api.ExArrow), part(api.ExAt)}
		for op := api.OpAdd; op <= api.OpGe; op++ {
			l = append(l, api.Expr{Kind: api.ExBin, Op: op})
		}
	case 3:
		l = []api.Expr{part(api.ExIf), part(api.ExSet)}
	}
	if n <= api.MaxPorts {
		l = append(l, call(0))
	}
	if 1 <= n && n <= api.MaxPorts+1 {
		l = append(l, call(1))
	}
	if 1 <= n && n <= api.MaxCtors {
		ahead := arms[:n]
		back := slices.Clone(ahead)
		slices.Reverse(back)
		for _, m := range [][]string{ahead, back}[:min(n, 2)] {
			l = append(l, api.Expr{Kind: api.ExMerge, Name: "a", Arms: m})
		}
	}
	if 1 <= n && n <= api.MaxArray {
		l = append(l, part(api.ExArr))
	}
	return l
}

// firsts are constants, as the first Sub of an ExFby has to be one.
func firsts() []api.Expr {
	less := operation(api.OpNeg, number(1))
	return []api.Expr{number(0), truth(1), leaf(api.ExCtor, "A"), less, part(api.ExArr, number(0)), part(api.ExArr, less, truth(0))}
}

// grow is a right expression that chance tells, that deep at most; *left is how many parts there may be beside it.
func grow(r *rand.Rand, depth int, left *int) api.Expr {
	n := 0
	if depth > 3 {
		n = min(r.IntN(9), *left/4)
	}
	of := heads(n)
	e := of[r.IntN(len(of))]
	*left -= n
	for i := range n {
		s := grow(r, depth-1, left)
		if e.Kind == api.ExFby && i == 0 {
			s = firsts()[r.IntN(6)]
			*left -= 4
		}
		e.Subs = append(e.Subs, s)
	}
	return e
}

// wrappers are parts that have p in them, a kind or two each.
func wrappers(p api.Expr) []api.Expr {
	a := leaf(api.ExVar, "a")
	return []api.Expr{
		part(api.ExPre, p), operation(api.OpNot, p), part(api.ExArr, a, p), part(api.ExIf, a, p, a),
		operation(api.OpSub, p, a), part(api.ExAt, a, p), clocked(api.ExMerge, "c", "Up Down", a, p), part(api.ExFby, number(0), p),
		part(api.ExSet, a, a, p), clocked(api.ExWhen, "b", "false", p), part(api.ExArrow, p, a), call(1, a, p), call(0, p, a), operation(api.OpNeg, p),
	}
}

// buried is p in n others, each of another kind than the one around it, the at-th wrapper ahead.
func buried(n, at int, p api.Expr) api.Expr {
	for i := range n {
		w := wrappers(p)
		p = w[(at+i)%len(w)]
	}
	return p
}

// wide is an expression of n parts, from 2 to 73, that is 3 deep at most.
func wide(n int) api.Expr {
	e := part(api.ExArr)
	for left := n - 1; left > 0; {
		m := min(left, 1+api.MaxArray)
		s := number(int64(left))
		if m > 1 {
			s = part(api.ExArr, slices.Repeat([]api.Expr{number(7)}, m-1)...)
		}
		e.Subs = append(e.Subs, s)
		left -= m
	}
	return e
}

// places tells how many parts e has.
func places(e api.Expr) int {
	n := 1
	for _, s := range e.Subs {
		n += places(s)
	}
	return n
}

// changed is a copy of e, whose part at a place, an expression ahead of its Subs' parts, is changed.
func changed(e api.Expr, at int, change func(*api.Expr)) api.Expr {
	f := copied(e)
	ahead := []*api.Expr{&f}
	for ; at > 0; at-- {
		p := ahead[len(ahead)-1]
		ahead = ahead[:len(ahead)-1]
		for i := range p.Subs {
			ahead = append(ahead, &p.Subs[len(p.Subs)-1-i])
		}
	}
	change(ahead[len(ahead)-1])
	return f
}

// copied is a copy of e that shares nothing with it, with no list where e has an empty one.
func copied(e api.Expr) api.Expr {
	e.Arms = append([]string(nil), e.Arms...)
	var subs []api.Expr
	for _, s := range e.Subs {
		subs = append(subs, copied(s))
	}
	e.Subs = subs
	return e
}

// filled is such a copy too, with an empty list where e has none.
func filled(e api.Expr) api.Expr {
	e.Arms = append([]string{}, e.Arms...)
	subs := []api.Expr{}
	for _, s := range e.Subs {
		subs = append(subs, filled(s))
	}
	e.Subs = subs
	return e
}
