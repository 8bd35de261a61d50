package ty_test

import (
	"math"
	"slices"
	"strconv"
	"strings"
	"testing"

	"noria/api"
	"noria/ty"
)

// enum makes an enum.
func enum(name string, ctors ...string) api.Enum {
	return api.Enum{Name: name, Ctors: ctors}
}

// of makes a type.
func of(kind, place, length int) api.Ty {
	return api.Ty{Kind: kind, Enum: place, Len: length}
}

// copied tells a list that shares nothing with l.
func copied(l []api.Enum) []api.Enum {
	c := slices.Clone(l)
	for i := range c {
		c[i].Ctors = slices.Clone(c[i].Ctors)
	}
	return c
}

// equal tells whether two lists have the same.
func equal(a, b []api.Enum) bool {
	return slices.EqualFunc(a, b, func(d, e api.Enum) bool {
		return d.Name == e.Name && slices.Equal(d.Ctors, e.Ctors)
	})
}

// full is a list of as many enums as may be, with as many constructors as may be, all apart.
func full() []api.Enum {
	return []api.Enum{
		enum("way", "Up", "Down", "Left", "Right", "In", "Out"),
		enum("hue", "Red", "Green", "Blue", "White", "Black", "Grey"),
		enum("abcdefghijkl", "ABCDEFGHIJKL", "M_0123456789", "N", "O9", "P_", "Qq"),
		enum("x9_", "X", "Y", "Z", "X1", "Y1", "Z1"),
	}
}

// roomy is a list of as many enums as may be, with room for one more constructor in each.
func roomy() []api.Enum {
	l := full()
	for i := range l {
		l[i].Ctors = l[i].Ctors[:api.MaxCtors-1]
	}
	return copied(l)
}

// more is an enum that may stand beside those of full.
func more() api.Enum {
	return enum("more", "More", "Most")
}

// ints are numbers about all edges, and far from them.
func ints() []int {
	l := []int{math.MinInt, math.MinInt + 1, math.MinInt32, math.MinInt32 - 1, -1 << 40, -65536, -256, -255, 255, 256, 257, 258, 259, 260, 264, 65536, 65537, 1 << 31, math.MaxInt32, 1 << 32, 1<<32 + 1, 1<<32 + 3, 1<<32 + 8, 1 << 62, math.MaxInt - 1, math.MaxInt}
	for n := -20; n <= 20; n++ {
		l = append(l, n)
	}
	return l
}

// few are some numbers about the edges.
func few() []int {
	return []int{math.MinInt, -2, -1, 0, 1, 2, 3, 4, 5, 7, 8, 9, 256, math.MaxInt}
}

// enums holds what Enums tells of l against want, and that it leaves l as it is.
func enums(t *testing.T, l []api.Enum, want api.Errno) {
	t.Helper()
	as := copied(l)
	if e := ty.Enums(l); e != want {
		t.Errorf("Enums of %d, %.300q, is %d, not %d", len(l), l, e, want)
	}
	if !equal(l, as) {
		t.Errorf("Enums of %.300q has changed them", as)
	}
}

// The limits and kinds are those that the chapter names.
func TestGiven(t *testing.T) {
	if api.MaxArray != 8 || api.MaxEnums != 4 || api.MaxCtors != 6 {
		t.Fatal("limits")
	}
	if api.KInt != 1 || api.KBool != 2 || api.KEnum != 3 {
		t.Fatal("kinds")
	}
	if api.OK != 0 || api.ErrArg != 1 || api.ErrMany != 4 || api.ErrThere != 6 {
		t.Fatal("errors")
	}
}

// P5.1: lists of no enum, of one and of several are well, up to the limits.
func TestEnumsThatMayBe(t *testing.T) {
	enums(t, nil, api.OK)
	enums(t, []api.Enum{}, api.OK)
	enums(t, []api.Enum{enum("a", "A")}, api.OK)
	enums(t, []api.Enum{enum("a", "B", "A")}, api.OK)
	enums(t, []api.Enum{enum("a", "A"), enum("b", "B")}, api.OK)
	enums(t, []api.Enum{enum("b", "B"), enum("a", "A", "C")}, api.OK)
	enums(t, []api.Enum{enum("on", "On"), enum("oN", "ON"), enum("o_n", "O_n")}, api.OK)
	enums(t, []api.Enum{enum("nodes", "Node", "NODE", "True"), enum("bools", "Bool", "Int")}, api.OK)
	enums(t, []api.Enum{enum("ab", "A", "AB", "ABC"), enum("abc", "Ab", "Abc")}, api.OK)
	for n := range 5 {
		enums(t, full()[:n], api.OK)
		enums(t, roomy()[:n], api.OK)
		enums(t, full()[4-n:], api.OK)
		for c := 1; c <= 6; c++ {
			l := full()
			l[n%4].Ctors = l[n%4].Ctors[:c]
			enums(t, l, api.OK)
		}
	}
}

// P5.1: more than MaxEnums enums are too many, and so are more than MaxCtors constructors of one, wherever it is.
func TestEnumsTooMany(t *testing.T) {
	enums(t, append(full(), more()), api.ErrMany)
	for at := range 5 {
		enums(t, slices.Insert(full(), at, more()), api.ErrMany)
		enums(t, slices.Insert(full(), at, enum("more")), api.ErrMany)
		enums(t, slices.Insert(full(), at, api.Enum{}), api.ErrMany)
	}
	for at := range 4 {
		for n := 1; n <= 4; n++ {
			if at >= n {
				continue
			}
			l := full()[:n]
			l[at].Ctors = append(l[at].Ctors, "More")
			enums(t, l, api.ErrMany)
			l[at].Ctors = append(l[at].Ctors, "Most", "More1")
			enums(t, l, api.ErrMany)
		}
	}
	for _, n := range []int{5, 6, 7, 8, 255, 256, 257, 260, 1000, 65540} {
		l := []api.Enum{}
		for i := range n {
			l = append(l, enum("e"+strconv.Itoa(i), "C"+strconv.Itoa(i)))
		}
		enums(t, l, api.ErrMany)
		enums(t, make([]api.Enum, n), api.ErrMany)
	}
	for _, n := range []int{7, 8, 9, 255, 256, 257, 262, 1000, 65540} {
		e := enum("a")
		for i := range n {
			e.Ctors = append(e.Ctors, "C"+strconv.Itoa(i))
		}
		enums(t, []api.Enum{e}, api.ErrMany)
		enums(t, []api.Enum{enum("b", "B"), e}, api.ErrMany)
		enums(t, []api.Enum{enum("b", "B"), e, enum("c", "D")}, api.ErrMany)
		enums(t, []api.Enum{{Ctors: make([]string, n)}}, api.ErrMany)
	}
}

// noLow are texts that no enum may be named by.
func noLow() []string {
	return []string{
		"", " ", "_", "_a", "0", "9a", "A", "Way", "NODE", "abcdefghijklm", strings.Repeat("a", 1000),
		"a b", "a-b", " a", "a ", "a.1", "a/b", "a\x00", "\x00", "\u00e4", "a\u00e4", "a\xff", "a'", "a[3]",
		"node", "returns", "var", "let", "tel", "enum", "if", "then", "else", "fby", "pre", "when", "merge", "every",
		"not", "and", "or", "xor", "mod", "true", "false", "int", "bool", "with",
	}
}

// noHigh are texts that no constructor may be.
func noHigh() []string {
	return []string{
		"", " ", "_", "_A", "0", "9A", "a", "up", "aB", "node", "true", "false", "ABCDEFGHIJKLM", strings.Repeat("A", 1000),
		"A B", "A-B", " A", "A ", "A.1", "A/B", "A\x00", "\x00", "\u00c4", "A\u00c4", "A\xff", "A'", "Up,Down",
	}
}

// P5.1: an enum's name that is not low, or is a word, is no argument, wherever the enum is.
func TestEnumsNames(t *testing.T) {
	for _, s := range noLow() {
		enums(t, []api.Enum{enum(s, "A")}, api.ErrArg)
		for at := range 4 {
			for _, l := range [][]api.Enum{full(), roomy()} {
				l[at].Name = s
				enums(t, l, api.ErrArg)
			}
		}
	}
}

// P5.1: an enum without constructors is no argument, wherever it is.
func TestEnumsWithoutCtors(t *testing.T) {
	enums(t, []api.Enum{enum("a")}, api.ErrArg)
	enums(t, []api.Enum{{Name: "a", Ctors: []string{}}}, api.ErrArg)
	enums(t, []api.Enum{enum("a", "A"), enum("b")}, api.ErrArg)
	enums(t, []api.Enum{enum("b"), enum("a", "A")}, api.ErrArg)
	enums(t, make([]api.Enum, 1), api.ErrArg)
	enums(t, make([]api.Enum, 4), api.ErrArg)
	for at := range 4 {
		l := full()
		l[at].Ctors = nil
		enums(t, l, api.ErrArg)
		l[at].Ctors = []string{}
		enums(t, l, api.ErrArg)
		l[at].Ctors = l[(at+1)%4].Ctors[:0]
		enums(t, l, api.ErrArg)
	}
}

// P5.1: a constructor that is not high is no argument, whichever it is, in whichever enum.
func TestEnumsCtors(t *testing.T) {
	for _, s := range noHigh() {
		enums(t, []api.Enum{enum("a", s)}, api.ErrArg)
		for at := range 4 {
			for c := range 6 {
				l := full()
				l[at].Ctors[c] = s
				enums(t, l, api.ErrArg)
				l[at].Ctors = l[at].Ctors[c : c+1]
				enums(t, l, api.ErrArg)
			}
		}
	}
}

// P5.1: two enums of one name are there already, at whichever places.
func TestEnumsTwice(t *testing.T) {
	enums(t, []api.Enum{enum("a", "A"), enum("a", "B")}, api.ErrThere)
	enums(t, []api.Enum{enum("a", "A"), enum("a", "A")}, api.ErrThere)
	enums(t, []api.Enum{enum("a", "A"), enum("b", "B"), enum("a", "C")}, api.ErrThere)
	for i := range 4 {
		for j := range 4 {
			l := full()
			l[i].Name = l[j].Name
			if i == j {
				enums(t, l, api.OK)
			} else {
				enums(t, l, api.ErrThere)
			}
		}
	}
}

// P5.1: a constructor that is there twice is there already, in one enum or in two, at whichever places.
func TestEnumsCtorTwice(t *testing.T) {
	enums(t, []api.Enum{enum("a", "A", "A")}, api.ErrThere)
	enums(t, []api.Enum{enum("a", "A", "B", "A")}, api.ErrThere)
	enums(t, []api.Enum{enum("a", "A"), enum("b", "A")}, api.ErrThere)
	for i := range 24 {
		for j := range 24 {
			l := full()
			l[i/6].Ctors[i%6] = l[j/6].Ctors[j%6]
			if i == j {
				enums(t, l, api.OK)
			} else {
				enums(t, l, api.ErrThere)
			}
		}
	}
	// Alike in part.
	enums(t, []api.Enum{enum("a", "A", "B"), enum("b", "A", "B")}, api.ErrThere) // another name alone
	enums(t, []api.Enum{enum("a", "A", "B"), enum("b", "B", "A")}, api.ErrThere) // and another order
	enums(t, []api.Enum{enum("a", "A", "B"), enum("a", "A", "C")}, api.ErrThere) // another constructor alone
	enums(t, []api.Enum{enum("a", "A", "B"), enum("a", "B", "A")}, api.ErrThere) // another order alone
}

// fault spoils a list at a place.
type fault struct {
	err   api.Errno
	ctors bool // it is one of the constructors
	spoil func(l []api.Enum, at int) []api.Enum
}

// faults are ways to spoil the list roomy, each by one thing.
func faults() []fault {
	f := []fault{
		{api.ErrMany, true, func(l []api.Enum, at int) []api.Enum {
			l[at].Ctors = append(l[at].Ctors, "More", "Most")
			return l
		}},
		{api.ErrMany, true, func(l []api.Enum, at int) []api.Enum {
			l[at].Ctors = []string{"K", "K1", "K2", "K3", "K4", "K5", "K6"}
			return l
		}},
		{api.ErrArg, true, func(l []api.Enum, at int) []api.Enum {
			l[at].Ctors = nil
			return l
		}},
		{api.ErrThere, false, func(l []api.Enum, at int) []api.Enum {
			l[at].Name = l[(at+1)%4].Name
			return l
		}},
		{api.ErrThere, true, func(l []api.Enum, at int) []api.Enum {
			l[at].Ctors = append(l[at].Ctors, l[at].Ctors[0])
			return l
		}},
		{api.ErrThere, true, func(l []api.Enum, at int) []api.Enum {
			l[at].Ctors = []string{"K7", "K8", "K7"}
			return l
		}},
	}
	for _, s := range []string{"", "Way", "node", "a-b", "abcdefghijklm"} {
		f = append(f, fault{api.ErrArg, false, func(l []api.Enum, at int) []api.Enum {
			l[at].Name = s
			return l
		}})
	}
	for _, s := range []string{"", "up", "true", "A-B", "ABCDEFGHIJKLM"} {
		f = append(f, fault{api.ErrArg, true, func(l []api.Enum, at int) []api.Enum {
			l[at].Ctors[at%len(l[at].Ctors)] = s
			return l
		}})
		f = append(f, fault{api.ErrArg, true, func(l []api.Enum, at int) []api.Enum {
			l[at].Ctors = append(l[at].Ctors, s)
			return l
		}})
	}
	return f
}

// first tells which of errors is named first.
func first(l ...api.Errno) api.Errno {
	for _, e := range []api.Errno{api.ErrMany, api.ErrArg, api.ErrThere} {
		if slices.Contains(l, e) {
			return e
		}
	}
	return api.OK
}

// P5.1: of several faults, at whichever places, ErrMany is told ahead of ErrArg, and ErrArg ahead of ErrThere.
func TestEnumsFirstError(t *testing.T) {
	for _, f := range faults() {
		for i := range 4 {
			enums(t, f.spoil(roomy(), i), f.err)
			for at := range 5 {
				enums(t, slices.Insert(f.spoil(roomy(), i), at, more()), api.ErrMany)
			}
			for _, g := range faults() {
				for j := range 4 {
					// Of one enum's constructors one fault could undo the other.
					if i == j && f.ctors == g.ctors {
						continue
					}
					enums(t, g.spoil(f.spoil(roomy(), i), j), first(f.err, g.err))
				}
			}
		}
	}
}

// P5.1: several faults in one enum's constructors are told in the same order.
func TestEnumsFirstErrorWithin(t *testing.T) {
	for at := range 4 {
		with := func(ctors ...string) []api.Enum {
			l := full()
			l[at].Ctors = ctors
			return l
		}
		enums(t, with("K", "K", "K1", "K2", "K3", "K4", "K5"), api.ErrMany)
		enums(t, with("K", "K1", "K2", "K3", "K4", "K5", "K"), api.ErrMany)
		enums(t, with("k", "K1", "K2", "K3", "K4", "K5", "K6"), api.ErrMany)
		enums(t, with("K", "K1", "K2", "K3", "K4", "K5", ""), api.ErrMany)
		enums(t, with("", "", "", "", "", "", ""), api.ErrMany)
		enums(t, with("K", "K", ""), api.ErrArg)
		enums(t, with("", "K", "K"), api.ErrArg)
		enums(t, with("K", "k", "K"), api.ErrArg)
		enums(t, with("k", "k"), api.ErrArg)
		enums(t, with("", ""), api.ErrArg)
		enums(t, with("K", "K", "K"), api.ErrThere)
		enums(t, with("K", "K1", "K2", "K3", "K4", "K"), api.ErrThere)
	}
	enums(t, []api.Enum{enum("int", "A"), enum("int", "B")}, api.ErrArg)
	enums(t, []api.Enum{enum("", "A"), enum("", "A")}, api.ErrArg)
	enums(t, []api.Enum{enum("a"), enum("a")}, api.ErrArg)
	enums(t, []api.Enum{enum("a", "A"), enum("a", "A"), enum("b")}, api.ErrArg)
	enums(t, []api.Enum{enum("b"), enum("a", "A"), enum("a", "A")}, api.ErrArg)
	enums(t, append(full(), full()...), api.ErrMany)
	enums(t, append(full(), full()[0]), api.ErrMany)
}

// mayBe is constructors of an enum of small lists, and what is wrong with them alone.
type mayBe struct {
	ctors []string
	err   api.Errno
}

// alone tells what is wrong with an enum alone.
func alone(name string, c mayBe) api.Errno {
	if name != "a" && name != "b" {
		return first(api.ErrArg, c.err)
	}
	return c.err
}

// twice tells whether two texts of l are one.
func twice(l []string) bool {
	for i := range l {
		for j := range i {
			if l[i] == l[j] {
				return true
			}
		}
	}
	return false
}

// P5.1: of all lists of up to three chosen enums Enums tells the first of what is wrong with each, and with all.
func TestEnumsOfAll(t *testing.T) {
	choice := []mayBe{
		{[]string{"A"}, api.OK}, {[]string{"B", "C"}, api.OK}, {[]string{"C", "D", "E", "F", "G", "H"}, api.OK},
		{nil, api.ErrArg}, {[]string{"I", "i"}, api.ErrArg}, {[]string{"J", "J"}, api.ErrThere},
		{[]string{"K", "L", "M", "N", "O", "P", "Q"}, api.ErrMany}, {[]string{"R", "", "R", "A", "A", "R", "A"}, api.ErrMany},
	}
	var all func(l []api.Enum, errs []api.Errno, rest int)
	all = func(l []api.Enum, errs []api.Errno, rest int) {
		names, ctors := []string{}, []string{}
		for _, e := range l {
			names = append(names, e.Name)
			ctors = append(ctors, e.Ctors...)
		}
		want := first(errs...)
		if want == api.OK && (twice(names) || twice(ctors)) {
			want = api.ErrThere
		}
		enums(t, l, want)
		if rest == 0 {
			return
		}
		for _, n := range []string{"a", "b", "", "or"} {
			for _, c := range choice {
				all(append(slices.Clone(l), enum(n, c.ctors...)), append(slices.Clone(errs), alone(n, c)), rest-1)
			}
		}
	}
	all(nil, nil, 3)
}

// right holds what Right tells against want, and that it leaves l as it is.
func right(t *testing.T, l []api.Enum, u api.Ty, want bool) {
	t.Helper()
	as := copied(l)
	if ty.Right(l, u) != want {
		t.Errorf("Right of %v, with %d enums, is %v", u, len(l), !want)
	}
	if !equal(l, as) {
		t.Errorf("Right with %q has changed them", as)
	}
}

// P5.2: Right lets be the kinds, each with its enums and lengths, at their edges.
func TestRight(t *testing.T) {
	for _, l := range [][]api.Enum{nil, {}, full()[:1], full()[:2], full()} {
		last := len(l) - 1
		for _, n := range []int{0, 1, 2, 7, 8} {
			right(t, l, of(api.KInt, 0, n), true)
			right(t, l, of(api.KBool, 0, n), true)
			right(t, l, of(api.KEnum, 0, n), len(l) > 0)
			right(t, l, of(api.KEnum, last, n), len(l) > 0)
			right(t, l, of(api.KEnum, last+1, n), false)
			right(t, l, of(api.KEnum, -1, n), false)
			right(t, l, of(api.KInt, 1, n), false)
			right(t, l, of(api.KBool, 1, n), false)
			right(t, l, of(0, 0, n), false)
			right(t, l, of(4, 0, n), false)
		}
		for _, n := range []int{-1, 9, math.MinInt, math.MaxInt} {
			right(t, l, of(api.KInt, 0, n), false)
			right(t, l, of(api.KBool, 0, n), false)
			right(t, l, of(api.KEnum, 0, n), false)
			right(t, l, of(api.KEnum, last, n), false)
		}
		right(t, l, api.Ty{}, false)
	}
}

// P5.2: of all kinds, enums and lengths Right lets be just those that the chapter names.
func TestRightOfAll(t *testing.T) {
	for many := range 7 {
		// Right asks nothing of the enums but how many there are.
		for _, l := range [][]api.Enum{append(full(), full()...)[:many], make([]api.Enum, many)} {
			places, lengths := []int{}, []int{0, 1, 2, 3, 4, 5, 6, 7, 8}
			for i := range many {
				places = append(places, i)
			}
			for _, kind := range ints() {
				may := map[int][]int{1: {0}, 2: {0}, 3: places}[kind]
				for _, place := range ints() {
					for _, n := range ints() {
						want := slices.Contains(may, place) && slices.Contains(lengths, n)
						if ty.Right(l, of(kind, place, n)) != want {
							t.Errorf("Right of %d, %d, %d, with %d enums, is %v", kind, place, n, many, !want)
						}
					}
				}
			}
		}
	}
}

// P5.2: Cells tells Len, at least 1, at most MaxArray, of right types and of others.
func TestCells(t *testing.T) {
	want := map[int]int{math.MinInt: 1, -1: 1, 0: 1, 1: 1, 2: 2, 3: 3, 4: 4, 5: 5, 6: 6, 7: 7, 8: 8, 9: 8, 10: 8, 16: 8, 256: 8, 1 << 32: 8, math.MaxInt: 8}
	for _, n := range ints() {
		cells := 8
		if n < 1 {
			cells = 1
		} else if n < 8 {
			cells = n
		}
		if w, there := want[n]; there && w != cells {
			t.Fatalf("of %d %d are wanted, and %d", n, w, cells)
		}
		for _, kind := range ints() {
			for _, place := range few() {
				if c := ty.Cells(of(kind, place, n)); c != cells {
					t.Fatalf("Cells of %d, %d, %d is %d, not %d", kind, place, n, c, cells)
				}
			}
		}
	}
	if ty.Cells(api.Ty{}) != 1 || ty.Cells(of(api.KBool, 0, 3)) != 3 {
		t.Error("Cells of nothing, or of bool[3]")
	}
}

// P5.2: One tells the same type with Len 0, of right types and of others.
func TestOne(t *testing.T) {
	for _, kind := range ints() {
		for _, place := range few() {
			for _, n := range ints() {
				u := of(kind, place, n)
				if o := ty.One(u); o != of(kind, place, 0) {
					t.Fatalf("One of %v is %v", u, o)
				}
				if u != of(kind, place, n) {
					t.Fatalf("One has changed %v", u)
				}
			}
		}
	}
}

// spot is what Ctor tells.
type spot struct {
	enum, ctor int
	ok         bool
}

// ctor holds what Ctor tells against want, and that it leaves l as it is.
func ctor(t *testing.T, l []api.Enum, name string, want spot) {
	t.Helper()
	as := copied(l)
	e, c, ok := ty.Ctor(l, name)
	if (spot{e, c, ok}) != want {
		t.Errorf("Ctor of %.300q in %.300q is %d, %d, %v, not %v", name, l, e, c, ok, want)
	}
	if !equal(l, as) {
		t.Errorf("Ctor in %q has changed them", as)
	}
}

// P5.2: Ctor tells of each constructor where it is.
func TestCtor(t *testing.T) {
	for n := range 5 {
		l := full()[:n]
		for i, e := range full() {
			for k, c := range e.Ctors {
				if i < n {
					ctor(t, l, c, spot{i, k, true})
				} else {
					ctor(t, l, c, spot{})
				}
			}
		}
	}
	ctor(t, []api.Enum{enum("a", "A")}, "A", spot{0, 0, true})
	ctor(t, []api.Enum{enum("a", "B", "A")}, "A", spot{0, 1, true})
	ctor(t, []api.Enum{enum("a", "B"), enum("b", "A")}, "A", spot{1, 0, true})
	ctor(t, []api.Enum{enum("a"), enum("b"), enum("c", "B", "A")}, "A", spot{2, 1, true})
}

// P5.2: beside a name that no enum has as a constructor there are zeros and false.
func TestCtorNone(t *testing.T) {
	for _, s := range []string{"", " ", "A", "way", "hue", "x9_", "up", "uP", "UP", "U", "Upp", "Up ", " Up", "Up\x00", "\x00", "X2", "O", "int", "true", "True", "Up,Down", "UpDown", "ABCDEFGHIJK", "ABCDEFGHIJKLM", strings.Repeat("X", 1000)} {
		for n := range 5 {
			ctor(t, full()[:n], s, spot{})
		}
		ctor(t, nil, s, spot{})
		ctor(t, []api.Enum{}, s, spot{})
		ctor(t, []api.Enum{enum("a"), enum("b")}, s, spot{})
		ctor(t, []api.Enum{enum("way", "Down"), enum("up", "Down")}, s, spot{})
	}
}

// P5.2: of several enums that have a constructor Ctor tells the first, and of one that has it twice the first number.
func TestCtorFirst(t *testing.T) {
	ctor(t, []api.Enum{enum("a", "A"), enum("b", "A")}, "A", spot{0, 0, true})
	ctor(t, []api.Enum{enum("a", "B", "A"), enum("b", "A")}, "A", spot{0, 1, true})
	ctor(t, []api.Enum{enum("a", "B"), enum("b", "C", "A"), enum("c", "A"), enum("d", "A")}, "A", spot{1, 1, true})
	ctor(t, []api.Enum{enum("a", "B", "A", "A")}, "A", spot{0, 1, true})
	for i := range 24 {
		for j := range 24 {
			l := full()
			l[i/6].Ctors[i%6], l[j/6].Ctors[j%6] = "Twice", "Twice"
			ctor(t, l, "Twice", spot{min(i, j) / 6, min(i, j) % 6, true})
		}
	}
}

// P5.2: Ctor finds a constructor in lists that Enums does not let be.
func TestCtorInWrong(t *testing.T) {
	long := enum("long")
	for i := range 300 {
		long.Ctors = append(long.Ctors, "C"+strconv.Itoa(i))
	}
	ctor(t, []api.Enum{long}, "C299", spot{0, 299, true})
	ctor(t, append(make([]api.Enum, 300), long), "C6", spot{300, 6, true})
	ctor(t, append(full(), more()), "Most", spot{4, 1, true})
	ctor(t, []api.Enum{enum("", "a"), enum("", "", "A")}, "A", spot{1, 1, true})
	ctor(t, []api.Enum{enum("", "a"), enum("", "", "A")}, "a", spot{0, 0, true})
	ctor(t, []api.Enum{enum("", "a"), enum("", "b", "")}, "", spot{1, 1, true})
}

// text holds what Text tells against want, and that it leaves l as it is.
func text(t *testing.T, l []api.Enum, u api.Ty, want string) {
	t.Helper()
	as := copied(l)
	if s := ty.Text(l, u); s != want {
		t.Errorf("Text of %v is %q, not %q", u, s, want)
	}
	if !equal(l, as) {
		t.Errorf("Text with %q has changed them", as)
	}
}

// The chapter's example.
func TestExample(t *testing.T) {
	u := of(api.KBool, 0, 3)
	right(t, nil, u, true)
	text(t, nil, u, "bool[3]")
	if c := ty.Cells(u); c != 3 {
		t.Errorf("bool[3] has %d cells", c)
	}
}

// P5.3: Text tells a type's name, with its length behind.
func TestText(t *testing.T) {
	for _, l := range [][]api.Enum{nil, {}, full()[:1], full()} {
		text(t, l, of(api.KInt, 0, 0), "int")
		text(t, l, of(api.KBool, 0, 0), "bool")
		for n, behind := range []string{"", "[1]", "[2]", "[3]", "[4]", "[5]", "[6]", "[7]", "[8]"} {
			text(t, l, of(api.KInt, 0, n), "int"+behind)
			text(t, l, of(api.KBool, 0, n), "bool"+behind)
			for i, e := range l {
				text(t, l, of(api.KEnum, i, n), e.Name+behind)
			}
		}
	}
	text(t, full(), of(api.KEnum, 0, 0), "way")
	text(t, full(), of(api.KEnum, 1, 0), "hue")
	text(t, full(), of(api.KEnum, 1, 1), "hue[1]")
	text(t, full(), of(api.KEnum, 2, 8), "abcdefghijkl[8]")
	text(t, full(), of(api.KEnum, 3, 3), "x9_[3]")
	// Right asks nothing of an enum's name.
	text(t, []api.Enum{enum("No name"), enum("")}, of(api.KEnum, 0, 2), "No name[2]")
	text(t, []api.Enum{enum("No name"), enum("")}, of(api.KEnum, 1, 2), "[2]")
	text(t, []api.Enum{enum("No name"), enum("")}, of(api.KEnum, 1, 0), "")
}

// P5.3: Text of what is not Right is empty.
func TestTextOfNone(t *testing.T) {
	for _, l := range [][]api.Enum{nil, {}, full()[:1], full()} {
		last := len(l) - 1
		for _, n := range []int{-1, 9, 10, 256, math.MinInt, math.MaxInt} {
			text(t, l, of(api.KInt, 0, n), "")
			text(t, l, of(api.KBool, 0, n), "")
			text(t, l, of(api.KEnum, 0, n), "")
			text(t, l, of(api.KEnum, last, n), "")
		}
		for _, n := range []int{0, 1, 8} {
			text(t, l, of(0, 0, n), "")
			text(t, l, of(4, 0, n), "")
			text(t, l, of(-1, 0, n), "")
			text(t, l, of(api.KInt, 1, n), "")
			text(t, l, of(api.KInt, -1, n), "")
			text(t, l, of(api.KBool, 1, n), "")
			text(t, l, of(api.KBool, -1, n), "")
			text(t, l, of(api.KEnum, -1, n), "")
			text(t, l, of(api.KEnum, last+1, n), "")
			text(t, l, of(api.KEnum, math.MinInt, n), "")
			text(t, l, of(api.KEnum, math.MaxInt, n), "")
			text(t, l, of(math.MinInt, 0, n), "")
			text(t, l, of(math.MaxInt, 0, n), "")
		}
		for _, kind := range ints() {
			for _, place := range few() {
				for _, n := range few() {
					u := of(kind, place, n)
					if (ty.Text(l, u) != "") != ty.Right(l, u) {
						t.Errorf("Text of %v is %q", u, ty.Text(l, u))
					}
				}
			}
		}
	}
}

// alike holds what Alike tells, both ways round, against want, and that it leaves the lists as they are.
func alike(t *testing.T, a []api.Enum, u api.Ty, b []api.Enum, v api.Ty, want bool) {
	t.Helper()
	asA, asB := copied(a), copied(b)
	if ty.Alike(a, u, b, v) != want || ty.Alike(b, v, a, u) != want {
		t.Errorf("Alike of %v in %q and %v in %q is %v, and the other way round %v", u, a, v, b, ty.Alike(a, u, b, v), ty.Alike(b, v, a, u))
	}
	if !equal(a, asA) || !equal(b, asB) {
		t.Errorf("Alike with %q and %q has changed them", asA, asB)
	}
}

// P5.3: numbers and truths are alike whatever the enums; other kinds and lengths are not.
func TestAlikeKinds(t *testing.T) {
	lists := [][]api.Enum{nil, {enum("a", "A")}, full(), slices.Repeat([]api.Enum{{}}, 9)}
	for _, a := range lists {
		for _, b := range lists {
			for n := range 9 {
				for m := range 9 {
					alike(t, a, of(api.KInt, 0, n), b, of(api.KInt, 0, m), n == m)
					alike(t, a, of(api.KBool, 0, n), b, of(api.KBool, 0, m), n == m)
					alike(t, a, of(api.KInt, 0, n), b, of(api.KBool, 0, m), false)
					alike(t, a, of(api.KInt, 0, n), b, of(api.KEnum, 0, m), false)
					alike(t, a, of(api.KBool, 0, n), b, of(api.KEnum, 0, m), false)
				}
			}
		}
	}
}

// P5.3: enums are alike just if they have one name and the same constructors, wherever they stand.
func TestAlikeEnums(t *testing.T) {
	kinds := []api.Enum{
		enum("a", "A", "B", "C"),
		enum("b", "A", "B", "C"), // another name alone
		enum("A", "A", "B", "C"),
		enum("aa", "A", "B", "C"),
		enum("", "A", "B", "C"),
		enum("a", "D", "B", "C"), // another constructor alone
		enum("a", "A", "D", "C"),
		enum("a", "A", "B", "D"),
		enum("a", "A", "B", "c"),
		enum("a", "B", "A", "C"), // another order alone
		enum("a", "A", "C", "B"),
		enum("a", "C", "B", "A"),
		enum("a", "B", "C", "A"),
		enum("a", "C", "A", "B"),
		enum("a", "A", "B"), // fewer, and more
		enum("a", "B", "C"),
		enum("a", "A"),
		enum("a"),
		enum("a", "A", "B", "C", "D"),
		enum("a", "Z", "A", "B", "C"),
		enum("a", "A", "B", "C", "C"),
		enum("a", "A", "A", "B", "C"),
		enum("a", "A", "BC"),
		enum("a", "AB", "C"),
		enum("a", "A,B,C"),
	}
	for i, d := range kinds {
		for j, e := range kinds {
			for _, n := range []int{0, 1, 3, 8} {
				alike(t, []api.Enum{d}, of(api.KEnum, 0, n), copied([]api.Enum{e}), of(api.KEnum, 0, n), i == j)
				alike(t, []api.Enum{d}, of(api.KEnum, 0, n), append(full(), e), of(api.KEnum, 4, n), i == j)
				alike(t, []api.Enum{d, e}, of(api.KEnum, 1, n), []api.Enum{e, d}, of(api.KEnum, 0, n), true)
				alike(t, []api.Enum{d, e}, of(api.KEnum, 0, n), []api.Enum{e, d}, of(api.KEnum, 0, n), i == j)
				alike(t, []api.Enum{d, e}, of(api.KEnum, 0, n), []api.Enum{d, e}, of(api.KEnum, 1, n), i == j)
				alike(t, []api.Enum{d}, of(api.KEnum, 0, n), []api.Enum{e}, of(api.KEnum, 0, (n+1)%9), false)
			}
		}
	}
	alike(t, []api.Enum{{Name: "a"}}, of(api.KEnum, 0, 0), []api.Enum{{Name: "a", Ctors: []string{}}}, of(api.KEnum, 0, 0), true)
}

// P5.3: what is not Right on either side is not alike, not even with itself.
func TestAlikeOfNone(t *testing.T) {
	l := full()
	wrong := []api.Ty{{}}
	for _, n := range []int{-1, 9, math.MinInt, math.MaxInt} {
		wrong = append(wrong, of(api.KInt, 0, n), of(api.KBool, 0, n), of(api.KEnum, 0, n), of(api.KEnum, 3, n))
	}
	for _, n := range []int{0, 1, 8} {
		for _, kind := range []int{0, 4, -1, math.MinInt, math.MaxInt} {
			wrong = append(wrong, of(kind, 0, n))
		}
		for _, place := range []int{-1, 4, math.MinInt, math.MaxInt} {
			wrong = append(wrong, of(api.KInt, place, n), of(api.KBool, place, n), of(api.KEnum, place, n))
		}
		wrong = append(wrong, of(api.KInt, 1, n), of(api.KBool, 1, n))
	}
	for _, u := range wrong {
		alike(t, l, u, l, u, false)
		alike(t, nil, u, nil, u, false)
		alike(t, l, u, nil, u, false)
		for _, v := range wrong {
			alike(t, l, u, l, v, false)
		}
		for _, v := range []api.Ty{of(api.KInt, 0, 0), of(api.KBool, 0, 0), of(api.KEnum, 0, 0), of(api.KEnum, 3, 0), of(u.Kind, 0, u.Len), of(u.Kind, u.Enum, 0), ty.One(u)} {
			if ty.Right(l, v) {
				alike(t, l, u, l, v, false)
			}
		}
	}
	// Right in the one list, not in the other.
	for i := range 4 {
		u := of(api.KEnum, i, 2)
		for n := range 5 {
			alike(t, l, u, l[:n], u, i < n)
			alike(t, l[:n], u, l[:n], u, i < n)
		}
		alike(t, l, u, nil, u, false)
		alike(t, nil, u, nil, u, false)
	}
}

// types are all right types where the enums are l.
func types(l []api.Enum) []api.Ty {
	r := []api.Ty{}
	for kind := range 6 {
		for place := range 6 {
			for n := range 12 {
				if u := of(kind, place, n); ty.Right(l, u) {
					r = append(r, u)
				}
			}
		}
	}
	return r
}

// P5.4: each right type is alike with itself, and both ways round; two of one list are alike just if they are the same, if Enums lets it be.
func TestLaws(t *testing.T) {
	for n := range 5 {
		l := full()[:n]
		if ty.Enums(l) != api.OK {
			t.Fatalf("%q may not be", l)
		}
		all := types(l)
		if len(all) != (2+n)*9 {
			t.Fatalf("with %d enums there are %d types", n, len(all))
		}
		for _, u := range all {
			alike(t, l, u, copied(l), u, true)
			for _, v := range all {
				alike(t, l, u, l, v, u == v)
				if (ty.Text(l, u) == ty.Text(l, v)) != (u == v) {
					t.Errorf("Texts of %v and %v are %q and %q", u, v, ty.Text(l, u), ty.Text(l, v))
				}
				if ty.Alike(l, ty.One(u), l, ty.One(v)) != (ty.One(u) == ty.One(v)) {
					t.Errorf("Alike of cells of %v and %v", u, v)
				}
			}
		}
	}
}

// P5.4: in a list that Enums does not let be each type is alike with itself, too, and both ways round; two of it may be alike.
func TestLawsOfWrong(t *testing.T) {
	l := []api.Enum{enum("a", "A"), enum("a", "A"), enum("", "B"), enum("a")}
	if ty.Enums(l) == api.OK {
		t.Fatalf("%q may be", l)
	}
	for _, u := range types(l) {
		for _, v := range types(l) {
			same := u == v || u.Kind == api.KEnum && v.Kind == api.KEnum && u.Len == v.Len && u.Enum < 2 && v.Enum < 2
			alike(t, l, u, l, v, same)
		}
	}
}

// P5.4: between two lists Alike goes on from type to type.
func TestLawsOfTwo(t *testing.T) {
	lists := [][]api.Enum{nil, full(), full()[1:], roomy(), {full()[3], full()[2], enum("way", "Down", "Up")}}
	for _, a := range lists {
		for _, b := range lists {
			for _, u := range types(a) {
				for _, v := range types(b) {
					want := ty.Text(a, u) == ty.Text(b, v)
					if want && u.Kind == api.KEnum {
						want = slices.Equal(a[u.Enum].Ctors, b[v.Enum].Ctors)
					}
					alike(t, a, u, b, v, want)
				}
			}
		}
	}
}
