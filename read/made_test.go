package read_test

import (
	"fmt"
	"reflect"
	"slices"
	"strconv"
	"strings"
	"testing"

	"noria/api"
	"noria/prog"
	"noria/read"
)

// reads asks that s is read as p, each time.
func reads(t *testing.T, s string, p api.Program) {
	t.Helper()
	for range 2 {
		q, n, err := read.Program(s)
		if n != len(s) || err != api.OK || !prog.Same(q, p) || !reflect.DeepEqual(bare(q), bare(p)) {
			t.Fatalf("%s is read as %s, %d, %d, not as %s, %d", cut(s), described(q), n, err, described(p), len(s))
		}
	}
}

// fails asks that of s nothing is told but an error and its place, each time.
func fails(t *testing.T, s string, at int, err api.Errno) {
	t.Helper()
	for range 2 {
		q, n, got := read.Program(s)
		if !reflect.DeepEqual(q, api.Program{}) || n != at || got != err {
			t.Fatalf("%s is told with %s, %d, %d, not with nothing, %d, %d", cut(s), described(q), n, got, at, err)
		}
	}
}

// wrong asks that of s without its ^ an error is told, and the place of what stands behind the ^, blanks going by.
func wrong(t *testing.T, s string, err api.Errno) {
	t.Helper()
	ahead, behind, marked := strings.Cut(s, "^")
	if !marked {
		t.Fatalf("%s has no place", cut(s))
	}
	blanks := len(behind) - len(strings.TrimLeft(behind, " \n"))
	fails(t, ahead+behind, len(ahead)+blanks, err)
}

// refused asks that s is read whole, and then refused.
func refused(t *testing.T, s string, err api.Errno) {
	t.Helper()
	fails(t, s, len(s), err)
}

// bare is p with nothing in the place of each empty list.
func bare(p api.Program) api.Program {
	q := api.Program{Enums: slices.Clone(p.Enums), Nodes: slices.Clone(p.Nodes)}
	lists(reflect.ValueOf(&q).Elem(), func(l reflect.Value) {
		if l.Len() == 0 {
			l.SetZero()
			return
		}
		m := reflect.MakeSlice(l.Type(), l.Len(), l.Len())
		reflect.Copy(m, l)
		l.Set(m)
	})
	return q
}

// lists goes through all lists in v, each ahead of those in it.
func lists(v reflect.Value, do func(reflect.Value)) {
	switch v.Kind() {
	case reflect.Struct:
		for i := range v.NumField() {
			lists(v.Field(i), do)
		}
	case reflect.Slice:
		do(v)
		for i := range v.Len() {
			lists(v.Index(i), do)
		}
	}
}

// enum makes an enum.
func enum(name string, ctors ...string) api.Enum {
	return api.Enum{Name: name, Ctors: ctors}
}

// of makes a type.
func of(kind, place, length int) api.Ty {
	return api.Ty{Kind: kind, Enum: place, Len: length}
}

// always makes a variable that is there always.
func always(name string) api.Decl {
	return api.Decl{Name: name, Ty: of(api.KInt, 0, 0)}
}

// when makes a variable that is there on an arm of another one.
func when(name, on, arm string) api.Decl {
	return api.Decl{Name: name, Ty: of(api.KInt, 0, 0), On: on, Ctor: arm}
}

// eq makes an equation.
func eq(e api.Expr, names ...string) api.Eq {
	return api.Eq{Names: names, E: e}
}

// ex makes an expression of a kind with parts.
func ex(kind int, subs ...api.Expr) api.Expr {
	return api.Expr{Kind: kind, Subs: subs}
}

// num makes the number n.
func num(n int64) api.Expr {
	return api.Expr{Kind: api.ExNum, N: n}
}

// variable makes a variable, as an expression.
func variable(name string) api.Expr {
	return api.Expr{Kind: api.ExVar, Name: name}
}

// call makes a call of a node.
func call(name string, args ...api.Expr) api.Expr {
	return api.Expr{Kind: api.ExCall, Name: name, Subs: args}
}

// names makes n names that begin as the first one says.
func names(first string, n int) []string {
	var l []string
	for i := range n {
		l = append(l, first+strconv.Itoa(i))
	}
	return l
}

// decls makes n variables that are there always.
func decls(first string, n int) []api.Decl {
	var l []api.Decl
	for _, s := range names(first, n) {
		l = append(l, always(s))
	}
	return l
}

// enums is a list of as many enums as may be, with as many constructors as may be.
func enums() []api.Enum {
	return []api.Enum{
		enum("way", "Up", "Down", "Left", "Right", "In", "Out"),
		enum("hue", "Red", "Green", "Blue", "White", "Black", "Grey"),
		enum("abcdefghijkl", "ABCDEFGHIJKL", "M_0123456789", "N", "O9", "P_", "Qq"),
		enum("x9_", "X", "Y", "Z", "X1", "Y1", "Z1"),
	}
}

// wide is the text of an expression of so many parts, from 2 to 73, three deep at most.
func wide(n int) string {
	var cells []string
	for n--; n > 0; {
		inner := min(n-1, api.MaxArray)
		cell := "1"
		if inner > 0 {
			cell = "[" + strings.Join(slices.Repeat([]string{"1"}, inner), ", ") + "]"
		}
		cells = append(cells, cell)
		n -= 1 + inner
	}
	return "[" + strings.Join(cells, ", ") + "]"
}

// deep is the text of an expression of so many parts that lie in one another.
func deep(n int) string {
	return strings.Repeat("pre ", n-1) + "a"
}

// expressions are texts of right expressions: one of each kind, and those at the bounds.
func expressions() []string {
	return append(strings.Split("0|9223372036854775807|true|false|a|Up|'a/b.7'|-a|not a|a + 1 * b - c|a and b or c xor d|a <= b|if a then b else c|0 fby 1 fby a|[-1, 2] fby a|0 -> a -> b|pre a|"+
		"a when c|a when not c|a when Up(c)|a when true(c) when false(d)|merge c (true -> a) (false -> b)|merge c (Up -> 1 -> 2) (Down -> (a with [0] = 1))|"+
		"f()|f(a, b + 1, g())|f() every a|f(1) every f(a) every b[1]|[a]|[a, [b], 1]|a[1][b[0]]|(a with [b] = c)|(((a)))|- - -1|a = (b = c)", "|"),
		wide(60), deep(12), "["+deep(11)+", "+wide(48)+"]")
}

// wrongExpressions are texts that are read whole as expressions, and then refused, with their errors.
func wrongExpressions() map[string]api.Errno {
	l := map[string]api.Errno{}
	for _, s := range strings.Split("a fby b|1 -> pre 2 fby b fby c|f() fby 1|merge c (A -> 1) (A -> 2)|[1, 1, 1, 1, 1, 1, 1, 1, 1]|f(1, 1, 1, 1, 1, 1, 1)|(a with [-1] = b fby 1)", "|") {
		l[s] = api.ErrArg
	}
	for _, s := range []string{wide(61), deep(13), "(" + deep(12) + ")[1]", "1 + " + wide(59), "[" + deep(12) + ", a fby b]", wide(60) + " fby 1", strings.Repeat("1 + ", 500) + "1", deep(1000)} {
		l[s] = api.ErrLong
	}
	return l
}

// noExpressions are texts that are none, with a ^ at the token with which no expression goes on.
func noExpressions() []string {
	return strings.Split("^|^)|a + ^|a + ^* b|(a^|(a ^b)|^fby a|0 fby ^|[^]|[a, ^]|f(a ^b|f(a,^)|if a ^else b|if a then b ^)|merge ^A|merge c ^a|merge c (^a -> 1)|merge c (A -> 1) (^x)|a when ^|a when not ^not|a when A ^c|"+
		"a when A(c^,|(a with ^1)|(a with [1] ^:= 2)|a[1^)|pre pre_ + not ^|- ^or|^node|^let|^int|0 fby ^int|a -> ^->|f() every ^-|"+deep(20)+" + ^", "|")
}

// described is a program as it is told of a test that fails.
func described(p api.Program) string {
	return cut(fmt.Sprintf("%+v", p))
}

// cut is a text as it is told of a test that fails.
func cut(s string) string {
	return strconv.Quote(s[:min(len(s), 1000)])
}
