package parse

import (
	"noria/api"
	"noria/arith"
	"noria/ident"
	"noria/lex"
)

// reading is tokens, as they are read.
// What is still to be read stands in a list, and not on the stack of the calls: so brackets may lie in one another as deep as there are tokens.
type reading struct {
	l     []lex.Token
	at    int        // the token that is next
	ahead []func()   // what is still to be read, the next one last
	parts []api.Expr // what is read, and not yet a part of another one
	size  int        // how many parts are made
}

// whole reads first, and all that it asks for, and tells whether it is there; else r is at the first token with which it does not go on.
func (r *reading) whole(first func()) (is bool) {
	// What is wrong ends all that is still to be read at once: stop panics.
	defer func() { is = recover() == nil }()
	r.next(first)
	for len(r.ahead) > 0 {
		last := len(r.ahead) - 1
		read := r.ahead[last]
		r.ahead = r.ahead[:last]
		read()
	}
	return true
}

// next has these read next, in their order, ahead of all that is still to be read.
func (r *reading) next(l ...func()) {
	for i := range l {
		r.ahead = append(r.ahead, l[len(l)-1-i])
	}
}

// made is the making of e: its Subs are so many of what is read already, and all that is read until then.
func (r *reading) made(e *api.Expr, already int) func() {
	from := len(r.parts) - already
	return func() {
		r.size++
		// What is too great is refused in the end: from there on the parts are counted alone.
		if r.size <= api.MaxTerms {
			e.Subs = append(e.Subs, r.parts[from:]...)
		}
		r.parts = append(r.parts[:from], *e)
	}
}

// right reads a side and, where the sign stands behind it, the other one, which goes as far as it can.
func (r *reading) right(side func(), sign string, kind int, other func()) {
	r.next(side, func() {
		if r.took(sign) {
			r.next(other, r.made(&api.Expr{Kind: kind}, 1))
		}
	})
}

// left reads sides with operators between, which hold from the left on.
func (r *reading) left(side func(), ops ...int) {
	var more func()
	more = func() {
		if op := r.operator(ops...); op != 0 {
			r.next(side, r.made(binary(op), 1), more)
		}
	}
	r.next(side, more)
}

// once reads a side, or two with an operator between.
func (r *reading) once(side func(), ops ...int) {
	r.next(side, func() {
		if op := r.operator(ops...); op != 0 {
			r.next(side, r.made(binary(op), 1))
		}
	})
}

// binary is an operator without its sides.
func binary(op int) *api.Expr {
	return &api.Expr{Kind: api.ExBin, Op: op}
}

// list reads expressions with commas between and what shuts them, and goes on with then.
func (r *reading) list(shut string, then func()) {
	var more func()
	more = func() {
		if r.took(",") {
			r.next(r.arrow, more)
			return
		}
		r.take(shut)
		then()
	}
	r.next(r.arrow, more)
}

// operator reads the sign of one of these, if it is next, and tells whose it is: else 0.
func (r *reading) operator(ops ...int) int {
	for _, op := range ops {
		if r.took(arith.Sign(op)) {
			return op
		}
	}
	return 0
}

// name reads a name.
func (r *reading) name() string {
	if !r.isName() {
		r.stop()
	}
	return r.token().S
}

// arm reads an arm.
func (r *reading) arm() string {
	if !r.isArm() {
		r.stop()
	}
	return r.token().S
}

// sign has a word or a mark read when it is its turn.
func (r *reading) sign(s string) func() {
	return func() { r.take(s) }
}

// take reads a word or a mark.
func (r *reading) take(s string) {
	if !r.took(s) {
		r.stop()
	}
}

// took reads a word or a mark, if it is next, and tells whether it was.
func (r *reading) took(s string) bool {
	if !r.is(s) {
		return false
	}
	r.token()
	return true
}

// token reads the token that is next.
func (r *reading) token() lex.Token {
	r.at++
	return r.l[r.at-1]
}

// stop ends the reading: the token that is next is one with which it does not go on.
func (r *reading) stop() {
	panic(api.ErrText)
}

// is tells whether a word or a mark is next.
func (r *reading) is(s string) bool {
	kind := lex.Mark
	if ident.Word(s) {
		kind = lex.Low
	}
	t := r.l[r.at]
	return t.Kind == kind && t.S == s
}

// isName tells whether a name is next: a Low that is no word.
func (r *reading) isName() bool {
	t := r.l[r.at]
	return t.Kind == lex.Low && !ident.Word(t.S)
}

// isArm tells whether an arm is next.
func (r *reading) isArm() bool {
	return r.l[r.at].Kind == lex.High || r.is("true") || r.is("false")
}
