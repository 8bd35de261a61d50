package parse_test

import (
	"math/rand/v2"
	"slices"
	"strconv"
	"strings"
	"testing"

	"noria/api"
	"noria/lex"
	"noria/parse"
	"noria/show"
)

// grammar has the lines of the chapter (P11.1).
const grammar = `
arrow: fby [ "->" arrow ]
fby:   or [ "fby" fby ]
or:    and { ( "or" | "xor" ) and }
and:   cmp { "and" cmp }
cmp:   sum [ ( "=" | "<>" | "<" | "<=" | ">" | ">=" ) sum ]
sum:   prod { ( "+" | "-" ) prod }
prod:  un { ( "*" | "/" | "mod" ) un }
un:    ( "-" | "not" | "pre" ) un | post
post:  atom { "[" arrow "]" | "when" when }
when:  "not" name | name | ( Name | "true" | "false" ) "(" name ")"
atom:  number | "true" | "false" | Name | path | name
atom:  name "(" [ arrow { "," arrow } ] ")" [ "every" post ]
atom:  "[" arrow { "," arrow } "]" | "if" arrow "then" arrow "else" arrow
atom:  "merge" name arm { arm }
atom:  "(" arrow [ "with" "[" arrow "]" "=" arrow ] ")"
arm:   "(" ( Name | "true" | "false" ) "->" arrow ")"
`

// ways are those in which a line, or a piece of one, goes on: each is signs, names of lines, and pieces of their own.
type ways [][]string

// lines are the grammar's, and its pieces, by their names. A piece { x } has the ways nothing and x { x }; one [ x ] the ways nothing and x.
func lines() map[string]ways {
	g := map[string]ways{}
	for _, line := range strings.Split(strings.TrimSpace(grammar), "\n") {
		name, rest, _ := strings.Cut(line, ":")
		w, _ := piece(g, strings.Fields(rest), "")
		g[name] = append(g[name], w...)
	}
	return g
}

// piece reads a piece of a line up to what shuts it, and tells what is left behind.
func piece(g map[string]ways, l []string, shut string) (ways, []string) {
	w := ways{nil}
	for len(l) > 0 && l[0] != shut {
		word := l[0]
		l = l[1:]
		if word == "|" {
			w = append(w, nil)
			continue
		}
		if pairs := map[string]string{"{": "}", "[": "]", "(": ")"}; pairs[word] != "" {
			name := "piece " + strconv.Itoa(len(g))
			g[name] = nil
			var inner ways
			inner, l = piece(g, l, pairs[word])
			l = l[1:]
			g[name] = inner
			if word == "{" {
				for i := range inner {
					inner[i] = append(inner[i], name)
				}
			}
			if word != "(" {
				g[name] = append(inner, nil)
			}
			word = name
		}
		w[len(w)-1] = append(w[len(w)-1], word)
	}
	return w, l
}

// open is all the ways in which what is read so far may go on: each is what has to follow still, with a sign ahead, if there is something.
type open map[string]struct{}

// from is what may follow where all of l has to follow.
func from(g map[string]ways, l ...string) open {
	o := open{}
	o.add(g, l)
	return o
}

func (o open) add(g map[string]ways, l []string) {
	if len(l) == 0 || g[l[0]] == nil {
		o[strings.Join(l, "\n")] = struct{}{}
		return
	}
	for _, w := range g[l[0]] {
		o.add(g, slices.Concat(w, l[1:]))
	}
}

// behind is what may follow when a token is read: nothing, if no way goes on with it.
func (o open) behind(g map[string]ways, token lex.Token) open {
	next, is := open{}, sign(token)
	for way := range o {
		if first, rest, more := strings.Cut(way, "\n"); first == is && is != "" {
			if !more {
				next.add(g, nil)
			} else {
				next.add(g, strings.Split(rest, "\n"))
			}
		}
	}
	return next
}

// whole tells whether nothing has to follow.
func (o open) whole() bool {
	_, is := o[""]
	return is
}

// sign is the one of the grammar's that a token is.
func sign(t lex.Token) string {
	const words = " node returns var let tel enum if then else fby pre when merge every not and or xor mod true false int bool with "
	switch t.Kind {
	case lex.Num:
		return "number"
	case lex.High:
		return "Name"
	case lex.Path:
		return "path"
	case lex.End:
		return ""
	}
	if t.Kind == lex.Low && !strings.Contains(words, " "+t.S+" ") {
		return "name"
	}
	return `"` + t.S + `"`
}

// words are tokens of all kinds, each of them alone.
func words(t *testing.T, s string) []lex.Token {
	var l []lex.Token
	for _, word := range strings.Fields(s) {
		l = append(l, tokens(t, word)[0])
	}
	return l
}

const (
	// few has of each sort of signs one: what the others would do is the same.
	few = "-> fby or and = + - * not [ ] when ( ) , every if then else merge with true 1 A a 'a' :="
	all = few + " xor <> < <= > >= / mod pre false : ; { } node returns var let tel enum int bool 0 9223372036854775807 B abcdefghijkl 'a/b.12'"
)

// asks holds what Part tells of l[at:] and the End behind against the ways in which it goes on, so many tokens being all that go on.
func asks(t *testing.T, l []lex.Token, at, size int, o open) {
	t.Helper()
	l = append(slices.Clip(l), lex.Token{Kind: lex.End})
	e, place, err := parse.Part(l, at)
	switch {
	case !o.whole():
		if place != at+size || err != api.ErrText {
			t.Errorf("Part(%q, %d): %d, %d, not %d, a text that is none", some(l), at, place, err, at+size)
		}
	case err == api.OK:
		if place != at+size || !slices.Equal(bare(tokens(t, show.Expr(e))), bare(l[at:at+size])) {
			t.Errorf("Part(%q, %d): %q, %d, not %d", some(l), at, show.Expr(e), place, at+size)
		}
	case place != at || err != api.ErrArg && err != api.ErrLong:
		t.Errorf("Part(%q, %d): %d, %d", some(l), at, place, err)
	case err == api.ErrArg && !slices.ContainsFunc(l, func(t lex.Token) bool { return t.S == "fby" || t.S == "merge" || t.S == "," }):
		t.Errorf("Part(%q, %d): not right", some(l), at)
	case err == api.ErrLong && size <= api.MaxDepth:
		t.Errorf("Part(%q, %d): too long", some(l), at)
	}
}

// bare are the texts of tokens without brackets, and without an End; a when of true or false is as show tells it.
func bare(l []lex.Token) []string {
	var texts []string
	for i, t := range l {
		arm := i > 0 && l[i-1].S == "when"
		switch {
		case t.S == "(" || t.S == ")" || t.Kind == lex.End || arm && t.S == "true":
		case arm && t.S == "false":
			texts = append(texts, "not")
		default:
			texts = append(texts, t.S)
		}
	}
	return texts
}

// walk asks of l, behind which all tokens of o may stand, and of it with each other token behind; and so of whatever is up to n tokens longer.
func walk(t *testing.T, g map[string]ways, l, alphabet []lex.Token, n int, o open) int {
	asks(t, l, 0, len(l), o)
	asked := 1
	for _, token := range alphabet {
		longer := append(slices.Clip(l), token)
		next := o.behind(g, token)
		if len(next) == 0 {
			asks(t, longer, 0, len(l), o)
			asked++
		} else if n > 0 {
			asked += walk(t, g, longer, alphabet, n-1, next)
		}
	}
	return asked
}

// P11.1, P11.2: all tokens that go on as the grammar says, and each other one behind them.
func TestGrammar(t *testing.T) {
	g := lines()
	n := walk(t, g, nil, words(t, all), 3, from(g, "arrow"))
	n += walk(t, g, nil, words(t, few), 4, from(g, "arrow"))
	if n < 400000 {
		t.Errorf("%d asked", n)
	}
}

// P11.1, P11.2: so with many tokens that chance tells, from the middle of others on.
func TestGrammarFar(t *testing.T) {
	g := lines()
	r := rand.New(rand.NewPCG(11, 33))
	alphabet := words(t, all)
	whole := 0
	for range 1000 {
		at := r.IntN(4)
		l := words(t, strings.Repeat("( ", at))
		o := from(g, "arrow")
		for size := range 30 {
			asks(t, l, at, size, o)
			if o.whole() {
				whole++
			}
			var next open
			var token lex.Token
			for len(next) == 0 {
				token = alphabet[r.IntN(len(alphabet))]
				next = o.behind(g, token)
				if len(next) == 0 {
					asks(t, append(slices.Clip(l), token), at, size, o)
				}
			}
			l, o = append(l, token), next
		}
	}
	if whole < 2000 {
		t.Errorf("%d whole", whole)
	}
}

// P11.1, P11.2: all that goes on as when does, and each other token behind.
func TestGrammarWhen(t *testing.T) {
	g := lines()
	alphabet := words(t, all)
	var ask func(l []lex.Token, o open)
	ask = func(l []lex.Token, o open) {
		is := func(l []lex.Token, size int) {
			l = append(slices.Clip(l), lex.Token{Kind: lex.End})
			name, arm, n, ok := parse.When(l, 0)
			if n != size || ok != o.whole() || ok != (name != "" && arm != "") {
				t.Errorf("When(%q, 0): %q, %q, %d, %v, not %d, %v", some(l), name, arm, n, ok, size, o.whole())
			}
		}
		is(l, len(l))
		for _, token := range alphabet {
			longer := append(slices.Clip(l), token)
			if next := o.behind(g, token); len(next) > 0 {
				ask(longer, next)
			} else {
				is(longer, len(l))
			}
		}
	}
	ask(nil, from(g, "when"))
}
