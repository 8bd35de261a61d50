package read

import (
	"strconv"

	"noria/api"
	"noria/ident"
	"noria/lex"
)

// tokens are those of a text, as they are read.
// The last one is an End: as nothing goes on behind it, no reading leaves l.
type tokens struct {
	l  []lex.Token
	at int // the one that is next
}

// wrong is what is wrong with a text: the place in it, and the error.
type wrong struct {
	at  int
	err api.Errno
}

func (w wrong) Error() string {
	return "error " + strconv.Itoa(int(w.err)) + " at " + strconv.Itoa(w.at)
}

// refused tells that the token that is next is wrong, with that error.
func (t *tokens) refused(err api.Errno) error {
	return wrong{at: t.next().At, err: err}
}

// stop tells that nothing goes on with the token that is next.
func (t *tokens) stop() error {
	return t.refused(api.ErrText)
}

// next is the token that is next.
func (t *tokens) next() lex.Token {
	return t.l[t.at]
}

// is tells whether a word or a mark is next. A path that has the same text is none.
func (t *tokens) is(s string) bool {
	next := t.next()
	return next.S == s && (next.Kind == lex.Low || next.Kind == lex.Mark)
}

// took reads a word or a mark, if it is next, and tells whether it was.
func (t *tokens) took(s string) bool {
	if !t.is(s) {
		return false
	}
	t.at++
	return true
}

// take reads a word or a mark.
func (t *tokens) take(s string) error {
	if !t.took(s) {
		return t.stop()
	}
	return nil
}

// text reads a name of that kind, which is no word, and tells it.
func (t *tokens) text(kind int) (string, error) {
	next := t.next()
	if next.Kind != kind || ident.Word(next.S) {
		return "", t.stop()
	}
	t.at++
	return next.S, nil
}

// number reads a number that is at least 1 and at most that.
func (t *tokens) number(most int64) (int64, error) {
	next := t.next()
	if next.Kind != lex.Num || next.N < 1 || next.N > most {
		return 0, t.stop()
	}
	t.at++
	return next.N, nil
}

// end asks that all is read.
func (t *tokens) end() error {
	if t.next().Kind != lex.End {
		return t.stop()
	}
	return nil
}
