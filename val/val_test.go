package val_test

import (
	"math"
	"math/big"
	"slices"
	"strconv"
	"strings"
	"testing"

	"noria/api"
	"noria/ty"
	"noria/val"
)

// enum makes an enum.
func enum(name string, ctors ...string) api.Enum {
	return api.Enum{Name: name, Ctors: ctors}
}

// of makes a type.
func of(kind, place, length int) api.Ty {
	return api.Ty{Kind: kind, Enum: place, Len: length}
}

// copied tells a list that shares nothing with l.
func copied(l []api.Enum) []api.Enum {
	c := slices.Clone(l)
	for i := range c {
		c[i].Ctors = slices.Clone(c[i].Ctors)
	}
	return c
}

// equal tells whether two lists have the same.
func equal(a, b []api.Enum) bool {
	return slices.EqualFunc(a, b, func(d, e api.Enum) bool {
		return d.Name == e.Name && slices.Equal(d.Ctors, e.Ctors)
	})
}

// full is as many enums as may be, with 6, 1, 2 and 3 constructors.
func full() []api.Enum {
	return []api.Enum{
		enum("way", "Up", "Down", "Left", "Right", "In", "Out"),
		enum("only", "Only"),
		enum("abcdefghijkl", "ABCDEFGHIJKL", "M_0123456789"),
		enum("x9_", "X", "Y", "Z"),
	}
}

// bare is enums of which some have no constructor.
func bare() []api.Enum {
	return []api.Enum{enum("none"), enum("a", "A"), {Name: "bare", Ctors: []string{}}, {}}
}

// lists are lists of enums, of none and of several.
func lists() [][]api.Enum {
	return [][]api.Enum{nil, {}, full()[:1], full()[:2], full()[:3], full(), bare()}
}

// nums are numbers about all edges, and far from them.
func nums() []int64 {
	l := []int64{
		math.MinInt64, math.MinInt64 + 1, -1 << 40, math.MinInt32 - 1, math.MinInt32, -65536, -256, -255,
		255, 256, 257, 258, 261, 65536, 65537, math.MaxInt32, 1 << 31, 1 << 32, 1<<32 + 1, 1<<32 + 5, 1 << 62, math.MaxInt64 - 1, math.MaxInt64,
	}
	for n := int64(-12); n <= 12; n++ {
		l = append(l, n)
	}
	return l
}

// ints are nums as such of int, and those about Kind's edges.
func ints() []int {
	l := []int{-1001, -1000, -999, 998, 999, 1000, 1001, 1002, 1 << 31, 1<<32 + 1000, 4096 + 1000}
	for _, n := range nums() {
		l = append(l, int(n))
	}
	return l
}

// wrong are types that are right in no list of four enums or fewer.
func wrong() []api.Ty {
	l := []api.Ty{{}}
	for _, n := range []int{0, 1, 2, 8} {
		for _, kind := range []int{math.MinInt, -3, -1, 0, 4, 5, 257, 259, 1<<32 + 1, math.MaxInt} {
			l = append(l, of(kind, 0, n), of(kind, 1, n))
		}
		for _, place := range []int{math.MinInt, -1000, -2, -1, 4, 5, 6, 256, 1000, 1 << 32, math.MaxInt} {
			l = append(l, of(api.KInt, place, n), of(api.KBool, place, n), of(api.KEnum, place, n))
		}
		for _, place := range []int{1, 2, 3} {
			l = append(l, of(api.KInt, place, n), of(api.KBool, place, n))
		}
	}
	for _, n := range []int{math.MinInt, -256, -8, -1, 9, 10, 16, 256, 257, 1 << 32, math.MaxInt} {
		l = append(l, of(api.KInt, 0, n), of(api.KBool, 0, n), of(api.KEnum, 0, n), of(api.KEnum, 3, n))
	}
	return l
}

// one holds what One tells against want, and that it leaves l as it is.
func one(t *testing.T, l []api.Enum, u api.Ty, n int64, want bool) {
	t.Helper()
	as := copied(l)
	if val.One(l, u, n) != want {
		t.Errorf("One of %v, with %d enums, and %d is %v", u, len(l), n, !want)
	}
	if !equal(l, as) {
		t.Errorf("One with %q has changed them", as)
	}
}

// right holds what Right tells against want, and that it leaves l and v as they are.
func right(t *testing.T, l []api.Enum, u api.Ty, v []int64, want bool) {
	t.Helper()
	as, vs := copied(l), slices.Clone(v)
	if val.Right(l, u, v) != want {
		t.Errorf("Right of %v, with %d enums, and %d is %v", u, len(l), v, !want)
	}
	if !equal(l, as) || !slices.Equal(v, vs) {
		t.Errorf("Right with %q and %d has changed them", as, vs)
	}
}

// text holds what Text tells against want, and that it leaves l and v as they are.
func text(t *testing.T, l []api.Enum, u api.Ty, v []int64, want string) {
	t.Helper()
	as, vs := copied(l), slices.Clone(v)
	if s := val.Text(l, u, v); s != want {
		t.Errorf("Text of %v, with %d enums, and %d is %q, not %q", u, len(l), v, s, want)
	}
	if !equal(l, as) || !slices.Equal(v, vs) {
		t.Errorf("Text with %q and %d has changed them", as, vs)
	}
}

// none holds that of u no number is a value, and no list of numbers is right.
func none(t *testing.T, l []api.Enum, u api.Ty) {
	t.Helper()
	for _, n := range nums() {
		one(t, l, u, n, false)
	}
	right(t, l, u, nil, false)
	text(t, l, u, nil, "")
	for many := range 12 {
		for _, n := range []int64{0, 1, -1, math.MaxInt64} {
			v := slices.Repeat([]int64{n}, many)
			right(t, l, u, v, false)
			text(t, l, u, v, "")
		}
	}
	right(t, l, u, val.Zero(u), false)
	text(t, l, u, val.Zero(u), "")
}

// The limits and kinds are those that the chapter names.
func TestGiven(t *testing.T) {
	if api.KInt != 1 || api.KBool != 2 || api.KEnum != 3 || api.MaxArray != 8 {
		t.Fatal("kinds, or the limit")
	}
}

// The chapter's example.
func TestExample(t *testing.T) {
	u := of(api.KBool, 0, 2)
	right(t, nil, u, []int64{1, 0}, true)
	text(t, nil, u, []int64{1, 0}, "[true,false]")
}

// P6.1: of KInt any number is a value of a cell, of each length and beside any enums.
func TestOneOfInt(t *testing.T) {
	for _, l := range lists() {
		for n := range 9 {
			for _, x := range nums() {
				one(t, l, of(api.KInt, 0, n), x, true)
			}
		}
	}
	one(t, nil, of(api.KInt, 0, 0), math.MinInt64, true)
	one(t, nil, of(api.KInt, 0, 0), math.MaxInt64, true)
}

// P6.1: of KBool 0 and 1 alone are values of a cell.
func TestOneOfBool(t *testing.T) {
	for _, l := range lists() {
		for n := range 9 {
			u := of(api.KBool, 0, n)
			one(t, l, u, 0, true)
			one(t, l, u, 1, true)
			one(t, l, u, -1, false)
			one(t, l, u, 2, false)
			for _, x := range nums() {
				one(t, l, u, x, x == 0 || x == 1)
			}
		}
	}
}

// P6.1: of KEnum the numbers of its constructors alone are values of a cell.
func TestOneOfEnum(t *testing.T) {
	for place, many := range []int64{6, 1, 2, 3} {
		for n := range 9 {
			u := of(api.KEnum, place, n)
			one(t, full(), u, 0, true)
			one(t, full(), u, many-1, true)
			one(t, full(), u, many, false)
			one(t, full(), u, -1, false)
			for _, x := range nums() {
				one(t, full(), u, x, 0 <= x && x < many)
			}
		}
	}
	// The enums before and behind it say nothing.
	one(t, []api.Enum{enum("a", "A", "B", "C"), enum("b", "D")}, of(api.KEnum, 1, 0), 1, false)
	one(t, []api.Enum{enum("a", "A"), enum("b", "B", "C", "D")}, of(api.KEnum, 0, 0), 1, false)
	one(t, []api.Enum{enum("a", "A"), enum("b", "B", "C", "D")}, of(api.KEnum, 1, 0), 2, true)
}

// P6.1: an enum may have more constructors than a program's, and names that are none: nothing is asked of that.
func TestOneOfWrongEnums(t *testing.T) {
	long := enum("")
	for i := range 300 {
		long.Ctors = append(long.Ctors, "C"+strconv.Itoa(i))
	}
	l := append(full(), long, enum("Not low", "not high", "not high", ""))
	for _, x := range nums() {
		one(t, l, of(api.KEnum, 4, 0), x, 0 <= x && x < 300)
		one(t, l, of(api.KEnum, 5, 0), x, 0 <= x && x < 3)
	}
	one(t, l, of(api.KEnum, 4, 0), 299, true)
	one(t, l, of(api.KEnum, 4, 0), 300, false)
	right(t, l, of(api.KEnum, 4, 2), []int64{299, 0}, true)
	text(t, l, of(api.KEnum, 4, 2), []int64{299, 0}, "[C299,C0]")
	text(t, l, of(api.KEnum, 5, 3), []int64{0, 2, 1}, "[not high,,not high]")
	text(t, l, of(api.KEnum, 5, 0), []int64{2}, "")
}

// P6.1: of an enum without constructors no number is a value, and no zero is right.
func TestBare(t *testing.T) {
	for _, place := range []int{0, 2, 3} {
		for n := range 9 {
			none(t, bare(), of(api.KEnum, place, n))
		}
	}
	none(t, make([]api.Enum, 1), of(api.KEnum, 0, 0))
	for n := range 9 {
		u := of(api.KEnum, 1, n)
		right(t, bare(), u, val.Zero(u), true)
	}
}

// P6.1, P6.2: of a type that is not right no number is a value, whatever the enums are.
func TestWrong(t *testing.T) {
	for _, l := range lists() {
		for _, u := range wrong() {
			none(t, l, u)
		}
		for _, place := range []int{len(l), len(l) + 1} {
			for n := range 9 {
				none(t, l, of(api.KEnum, place, n))
			}
		}
	}
}

// P6.1: of all kinds, enums and lengths One asks just what the chapter says.
func TestOneOfAll(t *testing.T) {
	for many := range 5 {
		l := full()[:many]
		for kind := -2; kind <= 6; kind++ {
			for place := -2; place <= 6; place++ {
				for n := -2; n <= 10; n++ {
					u := of(kind, place, n)
					values := []int64{}
					if n >= 0 && n <= 8 {
						values = cell(l, kind, place)
					}
					for x := int64(-3); x <= 9; x++ {
						one(t, l, u, x, slices.Contains(values, x))
					}
				}
			}
		}
	}
}

// cell tells the values from -3 to 9 of a cell of such a type.
func cell(l []api.Enum, kind, place int) []int64 {
	switch {
	case kind == 1 && place == 0:
		return []int64{-3, -2, -1, 0, 1, 2, 3, 4, 5, 6, 7, 8, 9}
	case kind == 2 && place == 0:
		return []int64{0, 1}
	case kind == 3 && place >= 0 && place < len(l):
		return []int64{0, 1, 2, 3, 4, 5}[:len(l[place].Ctors)]
	}
	return nil
}

// P6.1: Right asks for just as many numbers as the type has cells: one without Len, else Len.
func TestRightMany(t *testing.T) {
	for _, u := range []api.Ty{of(api.KInt, 0, 0), of(api.KBool, 0, 0), of(api.KEnum, 0, 0), of(api.KEnum, 1, 0), of(api.KEnum, 3, 0)} {
		for n := range 9 {
			u.Len = n
			right(t, full(), u, nil, false)
			right(t, full(), u, []int64{}, false)
			for many := range 20 {
				right(t, full(), u, make([]int64, many), many == max(n, 1))
			}
			for _, many := range []int{255, 256, 257, 258, 264, 65536 + 8, 1 << 20} {
				right(t, full(), u, make([]int64, many), false)
			}
		}
	}
}

// P6.1: Right asks One of each number, wherever it is.
func TestRightEach(t *testing.T) {
	for n := 1; n <= 8; n++ {
		for at := range n {
			for _, x := range nums() {
				with := func(kind, place int, want bool) {
					t.Helper()
					u := of(kind, place, n)
					v := make([]int64, n)
					v[at] = x
					right(t, full(), u, v, want)
				}
				with(api.KInt, 0, true)
				with(api.KBool, 0, x == 0 || x == 1)
				with(api.KEnum, 0, 0 <= x && x <= 5)
				with(api.KEnum, 1, x == 0)
				with(api.KEnum, 2, 0 <= x && x <= 1)
				with(api.KEnum, 3, 0 <= x && x <= 2)
			}
		}
	}
	right(t, nil, of(api.KInt, 0, 3), []int64{math.MinInt64, 0, math.MaxInt64}, true)
	right(t, nil, of(api.KBool, 0, 3), []int64{1, 2, 1}, false)
	right(t, nil, of(api.KBool, 0, 0), []int64{2}, false)
	right(t, nil, of(api.KBool, 0, 0), []int64{1, 1}, false)
	right(t, nil, of(api.KBool, 0, 0), []int64{1, 2}, false)
}

// P6.1: what stands behind the end of a list of numbers is none of it.
func TestRightWithRoom(t *testing.T) {
	v := []int64{1, 0, 2, 1}
	u := of(api.KBool, 0, 2)
	right(t, nil, u, v[:2], true)
	right(t, nil, u, v[:1], false)
	text(t, nil, u, v[:2], "[true,false]")
	text(t, nil, u, v[:1], "")
	if !slices.Equal(v, []int64{1, 0, 2, 1}) {
		t.Errorf("what stands behind has changed: %d", v)
	}
}

// P6.1: Zero has as many zeros as the type has cells, whether it is right or not.
func TestZero(t *testing.T) {
	want := map[int]int{math.MinInt: 1, -1: 1, 0: 1, 1: 1, 2: 2, 3: 3, 4: 4, 5: 5, 6: 6, 7: 7, 8: 8, 9: 8, 16: 8, 1 << 32: 8, math.MaxInt: 8}
	for n, many := range want {
		for _, kind := range ints() {
			for _, place := range []int{math.MinInt, -1, 0, 1, 3, 4, 1000, 1001, math.MaxInt} {
				u := of(kind, place, n)
				z := val.Zero(u)
				if len(z) != many || len(z) != ty.Cells(u) {
					t.Fatalf("Zero of %v is %d", u, z)
				}
				for _, x := range z {
					if x != 0 {
						t.Fatalf("Zero of %v is %d", u, z)
					}
				}
			}
		}
	}
	if z := val.Zero(api.Ty{}); !slices.Equal(z, []int64{0}) {
		t.Errorf("Zero of nothing is %d", z)
	}
}

// P6.1: the zeros of each call are its own.
func TestZeroIsNew(t *testing.T) {
	for n := range 9 {
		u := of(api.KInt, 0, n)
		z := val.Zero(u)
		for i := range z {
			z[i] = 7
		}
		for _, x := range append(val.Zero(u), val.Zero(of(api.KBool, 0, n))...) {
			if x != 0 {
				t.Fatalf("there is a %d among the zeros of %v", x, u)
			}
		}
	}
}

// P6.1: Kind tells 1, 2, 3 and the enum's place, up to 1000; else 0. It asks nothing of whether the type is right.
func TestKind(t *testing.T) {
	for _, place := range ints() {
		for _, n := range []int{math.MinInt, -1, 0, 1, 8, 9, math.MaxInt} {
			for _, kind := range ints() {
				want := 0
				switch {
				case kind == 1 || kind == 2:
					want = kind
				case kind == 3 && place >= 0 && place <= 1000:
					want = 3 + place
				}
				if k := val.Kind(of(kind, place, n)); k != want {
					t.Fatalf("Kind of %d, %d, %d is %d, not %d", kind, place, n, k, want)
				}
			}
		}
	}
	if val.Kind(api.Ty{}) != 0 {
		t.Error("Kind of nothing")
	}
}

// P6.1: the kinds at the edges of what an enum's place may be.
func TestKindOfEnums(t *testing.T) {
	for place := -10; place <= 1010; place++ {
		want := 3 + place
		if place < 0 || place > 1000 {
			want = 0
		}
		if k := val.Kind(of(api.KEnum, place, 0)); k != want {
			t.Errorf("Kind of the enum %d is %d, not %d", place, k, want)
		}
	}
	for place, want := range map[int]int{0: 3, 1: 4, 3: 6, 999: 1002, 1000: 1003, 1001: 0, -1: 0, -3: 0} {
		if k := val.Kind(of(api.KEnum, place, 0)); k != want {
			t.Errorf("Kind of the enum %d is %d, not %d", place, k, want)
		}
	}
	if val.Kind(of(api.KInt, 0, 0)) != 1 || val.Kind(of(api.KBool, 0, 0)) != 2 || val.Kind(of(api.KInt, 5, 3)) != 1 || val.Kind(of(api.KBool, -5, 99)) != 2 {
		t.Error("Kind of int, or bool")
	}
}

// same holds what Same tells against want, both ways round, and that it leaves a and b as they are.
func same(t *testing.T, a, b []int64, want bool) {
	t.Helper()
	as, bs := slices.Clone(a), slices.Clone(b)
	if val.Same(a, b) != want || val.Same(b, a) != want {
		t.Errorf("Same of %d and %d is not %v", a, b, want)
	}
	if !slices.Equal(a, as) || !slices.Equal(b, bs) {
		t.Errorf("Same of %d and %d has changed them", as, bs)
	}
}

// P6.1: Same tells whether two lists are the same numbers, of which type ever.
func TestSame(t *testing.T) {
	same(t, nil, nil, true)
	same(t, nil, []int64{}, true)
	same(t, []int64{}, []int64{}, true)
	same(t, nil, []int64{0}, false)
	same(t, []int64{}, []int64{0}, false)
	same(t, []int64{0}, []int64{0, 0}, false)
	same(t, []int64{1, 2}, []int64{1, 2}, true)
	same(t, []int64{1, 2}, []int64{2, 1}, false)
	same(t, []int64{1, 2}, []int64{1}, false)
	same(t, []int64{1, 2}, []int64{2}, false)
	same(t, []int64{1, 2}, []int64{1, 2, 0}, false)
	same(t, []int64{1, 2}, []int64{1, 2, 2}, false)
	same(t, []int64{math.MinInt64}, []int64{math.MaxInt64}, false)
	same(t, []int64{math.MinInt64}, []int64{0}, false)
	same(t, []int64{1}, []int64{1<<32 + 1}, false)
	for i, a := range nums() {
		for j, b := range nums() {
			same(t, []int64{a}, []int64{b}, i == j)
		}
	}
}

// P6.1: lists that differ in one place alone, or in how many they have, are not the same, however long.
func TestSameButOne(t *testing.T) {
	for _, n := range []int{1, 2, 3, 8, 9, 17, 100, 1000} {
		a := []int64{}
		for i := range n {
			a = append(a, int64(i*i-7))
		}
		same(t, a, slices.Clone(a), true)
		same(t, a, a, true)
		for at := range n {
			for _, by := range []int64{1, -1, 256, 1 << 32, math.MinInt64} {
				b := slices.Clone(a)
				b[at] += by
				same(t, a, b, false)
			}
			same(t, a, a[:at], false)
			same(t, a, a[at+1:], false)
			same(t, a, append(slices.Clone(a), a[at]), false)
		}
	}
}

// P6.2: Text of a type without Len is a number's digits, with - ahead of one below 0.
func TestTextOfInt(t *testing.T) {
	u := of(api.KInt, 0, 0)
	for n, want := range map[int64]string{
		0: "0", 1: "1", -1: "-1", 9: "9", 10: "10", -10: "-10", 12345: "12345", -908: "-908", 1000000: "1000000",
		math.MaxInt64: "9223372036854775807", math.MinInt64: "-9223372036854775808", 1 << 32: "4294967296", -1 << 31: "-2147483648",
	} {
		text(t, nil, u, []int64{n}, want)
		text(t, full(), u, []int64{n}, want)
	}
	for _, n := range nums() {
		text(t, full(), u, []int64{n}, big.NewInt(n).String())
	}
}

// P6.2: Text of a truth is true or false, of an enum the constructor's name.
func TestTextOfCells(t *testing.T) {
	for _, l := range lists() {
		text(t, l, of(api.KBool, 0, 0), []int64{0}, "false")
		text(t, l, of(api.KBool, 0, 0), []int64{1}, "true")
		for i, e := range l {
			for k, c := range e.Ctors {
				text(t, l, of(api.KEnum, i, 0), []int64{int64(k)}, c)
				text(t, l, of(api.KEnum, i, 1), []int64{int64(k)}, "["+c+"]")
			}
		}
	}
	text(t, full(), of(api.KEnum, 0, 0), []int64{0}, "Up")
	text(t, full(), of(api.KEnum, 0, 0), []int64{5}, "Out")
	text(t, full(), of(api.KEnum, 3, 0), []int64{2}, "Z")
	text(t, full(), of(api.KEnum, 2, 0), []int64{1}, "M_0123456789")
}

// P6.2: Text of a type with Len is such texts, with a comma between, in [ ].
func TestTextOfArrays(t *testing.T) {
	text(t, nil, of(api.KInt, 0, 1), []int64{5}, "[5]")
	text(t, nil, of(api.KInt, 0, 1), []int64{-5}, "[-5]")
	text(t, nil, of(api.KInt, 0, 3), []int64{-1, 0, 12}, "[-1,0,12]")
	text(t, nil, of(api.KBool, 0, 1), []int64{1}, "[true]")
	text(t, nil, of(api.KBool, 0, 3), []int64{0, 0, 1}, "[false,false,true]")
	text(t, full(), of(api.KEnum, 0, 2), []int64{5, 0}, "[Out,Up]")
	text(t, full(), of(api.KEnum, 1, 8), make([]int64, 8), "[Only,Only,Only,Only,Only,Only,Only,Only]")
	text(t, nil, of(api.KInt, 0, 8), []int64{1, 2, 3, 4, 5, 6, 7, 8}, "[1,2,3,4,5,6,7,8]")
	text(t, nil, of(api.KInt, 0, 8), slices.Repeat([]int64{math.MinInt64}, 8), "["+strings.Repeat("-9223372036854775808,", 7)+"-9223372036854775808]")
	text(t, full(), of(api.KEnum, 0, 6), []int64{0, 1, 2, 3, 4, 5}, "[Up,Down,Left,Right,In,Out]")
	for n := 1; n <= 8; n++ {
		text(t, nil, of(api.KInt, 0, n), make([]int64, n), "[0"+strings.Repeat(",0", n-1)+"]")
		text(t, nil, of(api.KBool, 0, n), make([]int64, n), "[false"+strings.Repeat(",false", n-1)+"]")
		text(t, full(), of(api.KEnum, 3, n), slices.Repeat([]int64{1}, n), "[Y"+strings.Repeat(",Y", n-1)+"]")
	}
}

// P6.2: Text of what is not Right is empty: of other numbers, or of too few or too many.
func TestTextOfNone(t *testing.T) {
	text(t, nil, of(api.KBool, 0, 0), []int64{2}, "")
	text(t, nil, of(api.KBool, 0, 0), []int64{-1}, "")
	text(t, full(), of(api.KEnum, 0, 0), []int64{6}, "")
	text(t, full(), of(api.KEnum, 0, 0), []int64{-1}, "")
	text(t, full(), of(api.KEnum, 0, 0), []int64{math.MaxInt64}, "")
	text(t, full(), of(api.KEnum, 0, 0), []int64{math.MinInt64}, "")
	text(t, full(), of(api.KEnum, 4, 0), []int64{0}, "")
	for _, kind := range []int{api.KInt, api.KBool, api.KEnum} {
		for n := range 9 {
			text(t, full(), of(kind, 0, n), nil, "")
			text(t, full(), of(kind, 0, n), []int64{}, "")
			text(t, full(), of(kind, 0, n), make([]int64, max(n, 1)-1), "")
			text(t, full(), of(kind, 0, n), make([]int64, max(n, 1)+1), "")
			for at := range n {
				v := make([]int64, n)
				v[at] = 6
				if kind != api.KInt {
					text(t, full(), of(kind, 0, n), v, "")
				}
			}
		}
	}
}

// values are all right values of up to three cells whose numbers are from a few.
func values(l []api.Enum, u api.Ty) [][]int64 {
	from := []int64{math.MinInt64, -11, -1, 0, 1, 2, 3, 5, 6, 11, 111, math.MaxInt64}
	out := [][]int64{{}}
	for range max(u.Len, 1) {
		var longer [][]int64
		for _, v := range out {
			for _, n := range from {
				longer = append(longer, append(slices.Clone(v), n))
			}
		}
		out = longer
	}
	return slices.DeleteFunc(out, func(v []int64) bool { return !val.Right(l, u, v) })
}

// P6.3: two right values of a type have one text just if they are the same.
func TestOneText(t *testing.T) {
	for n := range 4 {
		for _, u := range []api.Ty{of(api.KInt, 0, n), of(api.KBool, 0, n), of(api.KEnum, 0, n), of(api.KEnum, 1, n), of(api.KEnum, 2, n), of(api.KEnum, 3, n)} {
			told := map[string][]int64{}
			for _, v := range values(full(), u) {
				s := val.Text(full(), u, v)
				if s == "" {
					t.Errorf("%d of %v has no text", v, u)
				}
				if w, there := told[s]; there {
					t.Errorf("%d and %d of %v are %q", v, w, u, s)
				}
				told[s] = v
				text(t, full(), u, slices.Clone(v), s)
			}
			want := map[int]int{api.KInt: 12, api.KBool: 2, api.KEnum: len(full()[u.Enum].Ctors)}[u.Kind]
			if u == of(api.KEnum, 0, n) {
				want = 5 // 4 is not among the few
			}
			many := 1
			for range max(n, 1) {
				many *= want
			}
			if len(told) != many {
				t.Errorf("of %v there are %d values, not %d", u, len(told), many)
			}
		}
	}
}

// P6.3: what Same tells of two right values of a type is whether they have one text.
func TestSameText(t *testing.T) {
	for _, u := range []api.Ty{of(api.KInt, 0, 0), of(api.KInt, 0, 2), of(api.KBool, 0, 3), of(api.KEnum, 0, 1), of(api.KEnum, 0, 2), of(api.KEnum, 3, 3)} {
		all := values(full(), u)
		for _, v := range all {
			for _, w := range all {
				if val.Same(v, w) != (val.Text(full(), u, v) == val.Text(full(), u, w)) {
					t.Errorf("%d and %d of %v", v, w, u)
				}
			}
		}
	}
}

// P6.3: Zero is right of each right type whose enum has a constructor.
func TestZeroIsRight(t *testing.T) {
	for _, l := range lists() {
		for kind := -1; kind <= 5; kind++ {
			for place := -1; place <= 5; place++ {
				for n := -1; n <= 9; n++ {
					u := of(kind, place, n)
					want := ty.Right(l, u) && (kind != api.KEnum || len(l[place].Ctors) > 0)
					right(t, l, u, val.Zero(u), want)
				}
			}
		}
	}
	text(t, nil, of(api.KInt, 0, 2), val.Zero(of(api.KInt, 0, 2)), "[0,0]")
	text(t, full(), of(api.KEnum, 0, 2), val.Zero(of(api.KEnum, 0, 2)), "[Up,Up]")
}
