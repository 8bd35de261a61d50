package ident_test

import (
	"regexp"
	"slices"
	"strconv"
	"strings"
	"testing"
	"unicode/utf8"

	"noria/api"
	"noria/ident"
)

const (
	smalls = "abcdefghijklmnopqrstuvwxyz"
	greats = "ABCDEFGHIJKLMNOPQRSTUVWXYZ"
	digits = "0123456789"
	inner  = smalls + greats + digits + "_" // what a name may have behind its first byte
)

// words has the chapter's list, as it stands there.
func words() []string {
	return strings.Split("node, returns, var, let, tel, enum, if, then, else, fby, pre, when, merge, every, not, and, or, xor, mod, true, false, int, bool, with", ", ")
}

// word tells, beside Word, whether s is in the list.
func word(s string) bool {
	return slices.Contains(words(), s)
}

// kind is what Low and High tell of a text.
type kind struct{ low, high bool }

// names holds what Low and High tell of s against want.
func names(t *testing.T, s string, want kind) {
	t.Helper()
	if k := (kind{ident.Low(s), ident.High(s)}); k != want {
		t.Errorf("Low and High of %q are %v, %v, not %v, %v", s, k.low, k.high, want.low, want.high)
	}
}

// lowNames are low names that are no word.
func lowNames() []string {
	return []string{
		"a", "z", "x9", "a_1", "a_", "a__b", "aB", "zZ09_", "nodes", "a0", "a9", "aA", "aZ", "az",
		"abcdefghijkl", "z_0123456789", "aBCDEFGHIJKL", "a___________", "m11111111111",
	}
}

// highNames are high names.
func highNames() []string {
	return []string{
		"A", "Z", "X9", "A_1", "A_", "A__b", "Ab", "Zz09_", "Node", "NODE", "A0", "A9", "AZ", "Aa", "Az",
		"Abcdefghijkl", "Z_0123456789", "ABCDEFGHIJKL", "A___________", "M11111111111",
	}
}

// noNames are neither low nor high.
func noNames() []string {
	return []string{
		"", " ", "_", "0", "9", "_a", "_A", "__", "0a", "9A", "1", "12", "a b", " a", "a ", "a\n", "\na", "a\t", "A ", "A\n",
		"abcdefghijklm", "ABCDEFGHIJKLM", "a____________", "A000000000000", strings.Repeat("a", 100), strings.Repeat("A", 1000),
		".", "/", "'", "-", "a.", ".a", "a.1", "A.1", "a/b", "A/B", "/a", "a/", "a-b", "a'", "'a'", "a+", "a@", "a[", "a`", "a{", "a:", "a,",
		"\x00", "a\x00", "\x00a", "A\x00", "a\x00b", "A\x7f",
		"\u00e4", "a\u00e4", "\u00c4", "A\u00c4", "\u00e4a", "\u00df", "a\u03b1", "\u03b1", "\u0391", "A\u0391", "a\u0661", "a\uff11", "\uff41", "\uff21", "a\u0301", "\u212a", "a\u017f", "\u2160", "a\U0001f600",
		"\x80", "\xff", "a\x80", "a\xff", "A\xff", "\xe4", "a\xe4", "A\xc4", "a\xc3", "a\xed\xa0\x80", "a\xf4\x90\x80\x80", "a\xc1\xa1", "\xffa",
	}
}

// P4.1: low names that are no word are low, high names are high, all else is neither.
func TestNames(t *testing.T) {
	for _, s := range lowNames() {
		names(t, s, kind{low: true})
	}
	for _, s := range highNames() {
		names(t, s, kind{high: true})
	}
	for _, s := range noNames() {
		names(t, s, kind{})
	}
}

// P4.1: a name's first byte is a small letter, or a great one.
func TestFirstByte(t *testing.T) {
	for b := range 256 {
		for _, behind := range []string{"", "a", "Z", "_", "9", "bcdefghijkl"} {
			s := string([]byte{byte(b)}) + behind
			names(t, s, kind{strings.Contains(smalls, s[:1]), strings.Contains(greats, s[:1])})
		}
	}
}

// P4.1: behind its first byte a name has small and great letters, digits and underscores alone, wherever it is.
func TestOtherBytes(t *testing.T) {
	for b := range 256 {
		c := string([]byte{byte(b)})
		in := strings.Contains(inner, c)
		// The noughts around it keep a word from being made.
		for n := 2; n <= api.MaxName; n++ {
			for at := 1; at < n; at++ {
				tail := strings.Repeat("0", at-1) + c + strings.Repeat("0", n-1-at)
				names(t, "x"+tail, kind{low: in})
				names(t, "X"+tail, kind{high: in})
			}
		}
	}
}

// P4.1: a name has from 1 to MaxName bytes, of whichever it is made.
func TestLengths(t *testing.T) {
	if api.MaxName != 12 {
		t.Fatalf("MaxName is %d, not 12", api.MaxName)
	}
	names(t, "", kind{})
	for n := 1; n <= 40; n++ {
		for _, c := range inner {
			tail := strings.Repeat(string(c), n-1)
			names(t, "y"+tail, kind{low: n <= 12})
			names(t, "Y"+tail, kind{high: n <= 12})
		}
	}
}

// P4.1: of all characters beyond one byte none is in a name, as its first or behind it.
func TestCharacters(t *testing.T) {
	for r := rune(utf8.RuneSelf); r <= utf8.MaxRune; r++ {
		c := string(r)
		if ident.Low(c) || ident.High(c) || ident.Low("a"+c) || ident.High("A"+c) || ident.Low(c+"a") || ident.High(c+"A") {
			t.Fatalf("%q, at %U, is in a name", c, r)
		}
	}
}

// P4.1: Word tells the words of the list; none of them is low, or high.
func TestWords(t *testing.T) {
	if len(words()) != 24 {
		t.Fatalf("the list has %d words, not 24", len(words()))
	}
	for _, s := range words() {
		if !ident.Word(s) {
			t.Errorf("%q is no word", s)
		}
		names(t, s, kind{})
	}
}

// P4.1: a word with a byte more, a byte less, or another one is a word just if it is in the list.
func TestNearlyWords(t *testing.T) {
	near := func(s string) {
		t.Helper()
		if ident.Word(s) != word(s) {
			t.Errorf("Word(%q) is %v", s, ident.Word(s))
		}
	}
	for _, w := range words() {
		for at := range len(w) {
			near(w[:at] + w[at+1:])
			for b := range 256 {
				c := string([]byte{byte(b)})
				near(w[:at] + c + w[at+1:])
				near(w[:at] + c + w[at:])
				near(w + c)
			}
		}
		great := strings.ToUpper(w[:1]) + w[1:]
		near(great)
		names(t, great, kind{high: true})
		near(strings.ToUpper(w))
		names(t, strings.ToUpper(w), kind{high: true})
		names(t, w+"s", kind{low: true})
		names(t, w+"_", kind{low: true})
		names(t, w+"0", kind{low: true})
		names(t, w[:len(w)-1], kind{low: true})
		names(t, w[1:], kind{low: !word(w[1:])})
	}
}

// P4.1: names, and all else that is in no list, are no words.
func TestNoWords(t *testing.T) {
	for _, s := range slices.Concat(lowNames(), highNames(), noNames(), []string{"real", "bools", "integer", "do", "end", "of", "nor", "current", "node ", " node", "node\x00", "node,", "if then", "a/node"}) {
		if ident.Word(s) {
			t.Errorf("%q is a word", s)
		}
	}
}

// path holds what Path tells of s against want.
func path(t *testing.T, s string, want bool) {
	t.Helper()
	if ident.Path(s) != want {
		t.Errorf("Path(%.100q) is %v", s, !want)
	}
}

// paths are paths.
func paths() []string {
	return append(lowNames(),
		"a/b.12", "a/b", "a.1", "a.9", "a.10", "a.99", "a.100", "a.999", "a.101", "a.110", "a.120", "a.909",
		"abcdefghijkl.999", "z_0123456789.1", "a.1/b", "a/b/c", "a.1/b.2/c.3", "a/a", "a/a/a", "a.1/a.1", "aB/cD", "nodes/var1", "n.1/bools.2/x",
		"abcdefghijkl/abcdefghijkl", "abcdefghijkl.999/abcdefghijkl.999/abcdefghijkl.999",
	)
}

// noPaths are no paths.
func noPaths() []string {
	return append(noParts(), "/a", "a/", "//", "a//b", "//a", "a//", "/a/", "a/b/", "/a/b", "a/b//c", "a///b", "a./b", "a/.1", "a/1", "a/b/1", "a/ b", "a /b", "a\\b", "a/b\n", "'a'", "'a/b'", "a/b'")
}

// noParts are no parts of a path.
func noParts() []string {
	l := []string{
		"", " ", ".", "/", "A", "A.1", "Ab", "node", "node.1", "int", "int.12", "0", "1", "12", "_", "_a", "9a", "1.1",
		"a.", "a..", "a..1", "a.1.", "a.1.2", "a.1.1.1", ".1", ".a", "..1", "a.b", "a.b.1", "a.A", "a._", "a.1a", "a.a1",
		"a.0", "a.00", "a.000", "a.01", "a.001", "a.09", "a.010", "a.0999", "a.1000", "a.1001", "a.9999", "a.10000", "a.99999999999999999999", "a.18446744073709551617",
		"a.+1", "a.-1", "a.-", "a.+", "a.1+", "a.1-", "a.1e1", "a.1_0", "a.0x1", "a. 1", "a.1 ", "a .1", " a.1", "a.1\n", "a.1\x00", "a.\x001", "a.\x00", "a,1", "a:1", "a.1:", "a.:", "a.1,5", "a.1/2.", "a.1.5",
		"a.\u0661", "a.\uff11", "a.\u00b2", "a.1\u0661", "a.\xb2", "a.1\xff", "a\u3002" + "1", "\u00e4", "\u00e4.1", "a\u00e4", "a\x80", "a\xff.1",
		"abcdefghijklm", "abcdefghijklm.1", "a b", "a-b", "a\x00", "\x00",
	}
	return append(append(l, words()...), "Node", "True.1")
}

// P4.2: paths are told apart from all else.
func TestPath(t *testing.T) {
	for _, s := range paths() {
		path(t, s, true)
	}
	for _, s := range noPaths() {
		path(t, s, false)
	}
	for _, w := range words() {
		path(t, w, false)
		path(t, w+".1", false)
		path(t, "a/"+w, false)
		path(t, w+"/a", false)
		path(t, w+"s/a", true)
		path(t, strings.ToUpper(w[:1])+w[1:], false)
	}
}

// P4.2: each part of a path is a part, at whichever place it is.
func TestParts(t *testing.T) {
	for _, s := range append(noParts(), highNames()...) {
		for _, around := range [][2]string{{"", ""}, {"a/", ""}, {"", "/a"}, {"a.1/", "/b.2"}, {"a/b/c/", ""}, {"", "/a/b/c"}} {
			path(t, around[0]+s+around[1], false)
		}
	}
	for _, s := range paths() {
		for _, around := range [][2]string{{"a/", ""}, {"", "/a"}, {"a.1/", "/b.2"}, {"a/b/c/", ""}, {"", "/a/b/c"}} {
			path(t, around[0]+s+around[1], true)
		}
		path(t, "/"+s, false)
		path(t, s+"/", false)
		path(t, s+"//"+s, false)
		path(t, s+" ", false)
		path(t, s+".", false)
	}
}

// P4.2: of the numbers those from 1 to 999 are behind a point, as their digits, without a nought ahead.
func TestNumbers(t *testing.T) {
	for n := range 12000 {
		s := strconv.Itoa(n)
		path(t, "a."+s, 1 <= n && n <= 999)
		path(t, "a/bc."+s+"/d", 1 <= n && n <= 999)
		for _, mark := range []string{"0", "00", "+", "-", " ", ".", "_"} {
			path(t, "a."+mark+s, false)
		}
		for _, mark := range []string{"+", "-", " ", ".", "_", "a", "/"} {
			path(t, "a."+s+mark, false)
		}
	}
}

// P4.2: a number has digits alone.
func TestDigits(t *testing.T) {
	for b := range 256 {
		c := string([]byte{byte(b)})
		digit := strings.Contains(digits, c)
		path(t, "a."+c, digit && c != "0")
		path(t, "a."+c+"1", digit && c != "0")
		path(t, "a.1"+c, digit)
		path(t, "a.1"+c+"1", digit)
		path(t, "a.11"+c, digit)
	}
}

// P4.2: a path may have many parts; one of them that is none spoils it.
func TestManyParts(t *testing.T) {
	const many = 20000
	l := slices.Repeat([]string{"abcdefghijkl.999"}, many)
	path(t, strings.Join(l, "/"), true)
	for _, at := range []int{0, 1, many / 2, many - 2, many - 1} {
		for _, s := range []string{"", "A", "or", "a.0"} {
			one := slices.Clone(l)
			one[at] = s
			path(t, strings.Join(one, "/"), false)
		}
	}
	path(t, strings.Repeat("/", 1<<20), false)
	path(t, strings.Repeat("a", 1<<20), false)
	path(t, "a."+strings.Repeat("1", 1<<20), false)
}

// P4.1, P4.2: of all short texts of chosen bytes Low, High, Word and Path tell what patterns tell.
func TestShortTexts(t *testing.T) {
	low := `[a-z][a-zA-Z0-9_]{0,11}`
	part := low + `(\.[1-9][0-9]{0,2})?`
	isLow := regexp.MustCompile(`\A` + low + `\z`)
	isHigh := regexp.MustCompile(`\A[A-Z][a-zA-Z0-9_]{0,11}\z`)
	isPath := regexp.MustCompile(`\A` + part + `(/` + part + `)*\z`)
	check := func(s string) {
		names(t, s, kind{isLow.MatchString(s) && !word(s), isHigh.MatchString(s)})
		if ident.Word(s) != word(s) {
			t.Errorf("Word(%q) is %v", s, !word(s))
		}
		free := true // of words
		for _, p := range strings.Split(s, "/") {
			n, _, _ := strings.Cut(p, ".")
			free = free && !word(n)
		}
		path(t, s, free && isPath.MatchString(s))
	}
	var all func(s string, more int)
	all = func(s string, more int) {
		check(s)
		for _, c := range []string{"o", "r", "A", "0", "1", "_", ".", "/", "\xc3", "\xa4"} {
			if more > 0 {
				all(s+c, more-1)
			}
		}
	}
	all("", 5)
}

// once holds what Once tells of l against want, and that it leaves l as it is.
func once(t *testing.T, want bool, l ...string) {
	t.Helper()
	as := slices.Clone(l)
	if ident.Once(l...) != want {
		t.Errorf("Once of %d, %.100q, is %v", len(l), l, !want)
	}
	if !slices.Equal(l, as) {
		t.Errorf("Once of %.100q has changed them", as)
	}
}

// P4.2: Once tells whether no text is there twice.
func TestOnce(t *testing.T) {
	once(t, true)
	once(t, true, []string{}...)
	for _, s := range []string{"", "a", "A", "node", "a/b.12", "\x00", "\xff", "no name"} {
		once(t, true, s)
		once(t, false, s, s)
		once(t, false, s, s, s)
		once(t, true, s, s+"a")
		once(t, true, s, "a"+s, s+"b")
		once(t, false, "b", s, s)
		once(t, false, s, s, "b")
		once(t, false, s, "b", s)
		once(t, false, "b", s, "c", "d", s, "e")
	}
	once(t, true, "abc", "abd")
	once(t, true, "abc", "aBc")
	once(t, true, "abc", "xbc")
	once(t, true, "a", "A")
	once(t, true, "a", "a ", " a", "a\x00", "a\n")
	once(t, true, "", " ", "\x00")
	once(t, true, "\u00e4", "a\u0308", "\xe4")
	once(t, true, "\xff", "\xfe", "\x80", "\ufffd")
	once(t, true, "b", "a", "c")
	once(t, false, "b", "a", "c", "a", "b")
	once(t, true, "x.1", "x.01", "x.10", "x")
}

// P4.2: of many texts one that is there twice is found, wherever they are.
func TestOnceOfMany(t *testing.T) {
	l := []string{}
	for i := range 3000 {
		l = append(l, strconv.Itoa(i*i))
	}
	once(t, true, l...)
	for _, a := range []int{0, 1, 1500, 2998, 2999} {
		for _, b := range []int{0, 1, 2, 1499, 1501, 2997, 2998, 2999} {
			two := slices.Clone(l)
			two[a] = two[b]
			once(t, a == b, two...)
		}
	}
	once(t, false, append(slices.Clone(l), l...)...)
}

// P4.2: of all lists of up to five of four texts Once tells what a look at each two tells.
func TestOnceOfAll(t *testing.T) {
	var all func(l []string, more int)
	all = func(l []string, more int) {
		want := true
		for i := range l {
			want = want && !slices.Contains(l[:i], l[i])
		}
		once(t, want, l...)
		for _, s := range []string{"", "a", "aa", "b"} {
			if more > 0 {
				all(append(slices.Clone(l), s), more-1)
			}
		}
	}
	all(nil, 5)
}

// P4.3: no text is both low and high; a low name is a path; paths with / between are a path.
func TestLaws(t *testing.T) {
	all := slices.Concat(lowNames(), highNames(), noNames(), paths(), noPaths(), words())
	yes := []string{}
	for _, s := range all {
		if ident.Low(s) && ident.High(s) {
			t.Errorf("%q is both low and high", s)
		}
		if ident.Low(s) && !ident.Path(s) {
			t.Errorf("%q is low, and no path", s)
		}
		if ident.Path(s) {
			yes = append(yes, s)
		}
	}
	if len(yes) < len(paths()) {
		t.Fatalf("there are %d paths", len(yes))
	}
	for _, a := range yes {
		for _, b := range yes {
			path(t, a+"/"+b, true)
			path(t, a+"/"+b+"/"+a, true)
		}
	}
	path(t, strings.Join(yes, "/"), true)
}
