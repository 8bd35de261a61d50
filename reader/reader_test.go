package reader_test

import (
	"bytes"
	"math"
	"strings"
	"testing"

	"noria/reader"
)

// failed tells what a Reader that failed answers otherwise than P3.1 says: nothing, if all is right.
func failed(r *reader.Reader) string {
	switch {
	case r.Ok():
		return "Ok"
	case r.At() != 0:
		return "At"
	case r.More():
		return "More"
	case r.Num(1) != 0 || r.Num(2) != 0 || r.Num(3) != 0 || r.Num(4) != 0 || r.Num(0) != 0 || r.Num(5) != 0:
		return "Num"
	case r.Int() != 0:
		return "Int"
	case r.Text() != "":
		return "Text"
	case len(r.Part()) != 0:
		return "Part"
	case r.Ok() || r.At() != 0 || r.More():
		return "Ok, At or More, behind readings"
	}
	return ""
}

// stands says whether the Reader is well, at the place at, with more behind it just if more.
func stands(t *testing.T, r *reader.Reader, at int, more bool) {
	t.Helper()
	if !r.Ok() || r.At() != at || r.More() != more {
		t.Fatalf("Ok, At and More are %v, %d, %v, not true, %d, %v", r.Ok(), r.At(), r.More(), at, more)
	}
}

// refused is a Writer that failed: it writes nothing any more.
func refused(t *testing.T, w *reader.Writer) {
	t.Helper()
	for range 2 {
		if w.Ok() || len(w.Bytes()) != 0 {
			t.Fatalf("it is Ok, or it has % x", w.Bytes())
		}
		w.Num(1, 1)
		w.Int(1)
		w.Text("a")
		w.Part([]byte("a"))
		w.Num(-1, 0)
	}
}

// written has what was written, and is well.
func written(t *testing.T, w *reader.Writer, want string) {
	t.Helper()
	if b := w.Bytes(); !w.Ok() || string(b) != want {
		t.Fatalf("Ok is %v, and Bytes % x, not % x", w.Ok(), b, want)
	}
}

// numbers of all sizes: 0 and the greatest one among them.
var numbers = []struct {
	n, size int
	b       string
}{
	{0, 1, "\x00"}, {1, 1, "\x01"}, {0x80, 1, "\x80"}, {0xff, 1, "\xff"},
	{0, 2, "\x00\x00"}, {258, 2, "\x01\x02"}, {0x100, 2, "\x01\x00"}, {0xffff, 2, "\xff\xff"},
	{0, 3, "\x00\x00\x00"}, {0x10203, 3, "\x01\x02\x03"}, {0x800000, 3, "\x80\x00\x00"}, {0xffffff, 3, "\xff\xff\xff"},
	{0, 4, "\x00\x00\x00\x00"}, {7, 4, "\x00\x00\x00\x07"}, {0x1020304, 4, "\x01\x02\x03\x04"}, {0x80000000, 4, "\x80\x00\x00\x00"}, {0xffffffff, 4, "\xff\xff\xff\xff"},
}

// ints with their bytes, of all lengths.
var ints = []struct {
	n int64
	b string
}{
	{0, "\x01\x00"}, {1, "\x01\x01"}, {-1, "\x01\xff"},
	{127, "\x01\x7f"}, {128, "\x02\x00\x80"}, {-128, "\x01\x80"}, {-129, "\x02\xff\x7f"},
	{1 << 20, "\x03\x10\x00\x00"}, {-1 << 31, "\x04\x80\x00\x00\x00"}, {1 << 31, "\x05\x00\x80\x00\x00\x00"},
	{-1<<47 + 1, "\x06\x80\x00\x00\x00\x00\x01"}, {1<<55 - 1, "\x07\x7f\xff\xff\xff\xff\xff\xff"},
	{math.MaxInt64, "\x08\x7f\xff\xff\xff\xff\xff\xff\xff"}, {math.MinInt64, "\x08\x80\x00\x00\x00\x00\x00\x00\x00"},
}

// texts has texts at the bounds, and such as are no letters.
func texts() []string {
	return []string{
		"", "a", "ab", "\x00", "\xff\xfe", "a\nb", "äöü", strings.Repeat("x", 255), strings.Repeat("y", 256), strings.Repeat("z", 65535),
	}
}

// P3.1: a Reader is well at first, at the place 0, and there is More if it has bytes.
func TestFrom(t *testing.T) {
	stands(t, reader.From(nil), 0, false)
	stands(t, reader.From([]byte{}), 0, false)
	stands(t, reader.From([]byte{0}), 0, true)
	stands(t, reader.From([]byte{1, 2, 3}), 0, true)
}

// P3.1: asking whether it is well, where it is, and for more, changes nothing.
func TestAsking(t *testing.T) {
	r := reader.From([]byte{7, 8})
	for i, want := range []int{7, 8} {
		for range 3 {
			stands(t, r, i, true)
		}
		if n := r.Num(1); n != want {
			t.Fatalf("it reads %d, not %d", n, want)
		}
	}
	for range 3 {
		stands(t, r, 2, false)
	}
}

// P3.1: nil, and a Reader that From did not make, answer as one that failed.
func TestNoReader(t *testing.T) {
	var holder struct{ r reader.Reader }
	for i, r := range []*reader.Reader{nil, {}, new(reader.Reader), &holder.r} {
		if s := failed(r); s != "" {
			t.Errorf("%d: %s", i, s)
		}
	}
}

// P3.1: whichever reading failed, of a Reader that failed nothing is read any more, though there are bytes.
func TestFailedStays(t *testing.T) {
	for name, read := range map[string]func(*reader.Reader){
		"Num of no size":      func(r *reader.Reader) { r.Num(0) },
		"Num of too great":    func(r *reader.Reader) { r.Num(5) },
		"Num behind the end":  func(r *reader.Reader) { r.Part(); r.Num(4) },
		"Int of none":         func(r *reader.Reader) { r.Int() },
		"Text behind the end": func(r *reader.Reader) { r.Num(3); r.Text() },
		"Part behind the end": func(r *reader.Reader) { r.Num(1); r.Part() },
	} {
		// A Part of one byte, and two bytes behind it; from other places on they are lengths beyond the end.
		r := reader.From([]byte{0, 0, 0, 1, 9, 1, 1})
		read(r)
		for range 2 {
			if s := failed(r); s != "" {
				t.Errorf("%s: %s", name, s)
			}
		}
	}
}

// P3.2: Num reads the number of the next bytes, the highest one first, and goes behind it.
func TestNum(t *testing.T) {
	for _, c := range numbers {
		for _, behind := range []string{"", "\x05", "\xff\xff\xff\xff"} {
			r := reader.From([]byte(c.b + behind))
			if n := r.Num(c.size); n != c.n {
				t.Errorf("Num(%d) of % x is %d, not %d", c.size, c.b, n, c.n)
			}
			stands(t, r, c.size, behind != "")
		}
	}
}

// P3.2: Num fails of no size from 1 to 4, though there are bytes enough.
func TestNumOfNoSize(t *testing.T) {
	for _, size := range []int{0, -1, -4, math.MinInt, 5, 6, 8, 9, 20, math.MaxInt} {
		for _, b := range [][]byte{nil, {1}, make([]byte, 4), bytes.Repeat([]byte{1}, 30)} {
			r := reader.From(b)
			if n := r.Num(size); n != 0 {
				t.Errorf("Num(%d) of % x is %d", size, b, n)
			}
			if s := failed(r); s != "" {
				t.Errorf("behind Num(%d) of % x: %s", size, b, s)
			}
		}
	}
}

// P3.2: Num fails if there are not so many bytes, at the first place and behind others.
func TestNumLacks(t *testing.T) {
	for size := 1; size <= 4; size++ {
		for has := range size {
			for ahead := range 3 {
				r := reader.From(bytes.Repeat([]byte{1}, ahead+has))
				for range ahead {
					r.Num(1)
				}
				stands(t, r, ahead, has > 0)
				if n := r.Num(size); n != 0 {
					t.Errorf("Num(%d) of %d bytes is %d", size, has, n)
				}
				if s := failed(r); s != "" {
					t.Errorf("behind Num(%d) of %d bytes: %s", size, has, s)
				}
			}
		}
	}
}

// P3.2: Int reads a count of bytes, and the number that these are.
func TestInt(t *testing.T) {
	for _, c := range ints {
		for _, behind := range []string{"", "\x00", "\xff\x80"} {
			r := reader.From([]byte(c.b + behind))
			if n := r.Int(); n != c.n {
				t.Errorf("Int of % x is %d, not %d", c.b, n, c.n)
			}
			stands(t, r, len(c.b), behind != "")
		}
	}
}

// P3.2: Int fails if the bytes are no number, or not the shortest of one, or if there are not so many.
func TestIntFails(t *testing.T) {
	bad := []string{
		"", "\x00", "\x00\x00", "\x00\x01",
		"\x02\x00\x00", "\x02\x00\x7f", "\x02\xff\x80", "\x02\xff\xff", "\x03\x00\x00\x80", "\x03\xff\xff\x7f",
		"\x08\x00\x7f\xff\xff\xff\xff\xff\xff", "\x08\x00\x00\x00\x00\x00\x00\x00\x00", "\x08\xff\xff\xff\xff\xff\xff\xff\xff", "\x08\xff\x80\x00\x00\x00\x00\x00\x00",
		"\x09\x00\x80\x00\x00\x00\x00\x00\x00\x00", "\x09\x01\x00\x00\x00\x00\x00\x00\x00\x00", "\x0a\x01\x01\x01\x01\x01\x01\x01\x01\x01\x01",
		"\x80" + strings.Repeat("\x01", 128), "\xff" + strings.Repeat("\x01", 255),
	}
	for _, c := range ints {
		for n := range len(c.b) {
			bad = append(bad, c.b[:n])
		}
	}
	for _, b := range bad {
		r := reader.From([]byte(b))
		if n := r.Int(); n != 0 {
			t.Errorf("Int of % x is %d", b, n)
		}
		if s := failed(r); s != "" {
			t.Errorf("behind Int of % x: %s", b, s)
		}
	}
}

// P3.2: Text reads two bytes, a length, and so many bytes.
func TestText(t *testing.T) {
	for _, c := range []struct{ b, want string }{
		{"\x00\x00", ""}, {"\x00\x02ab", "ab"}, {"\x00\x01\x00", "\x00"}, {"\x00\x03\xff\xfe\x80", "\xff\xfe\x80"},
		{"\x01\x02" + strings.Repeat("k", 258), strings.Repeat("k", 258)},
		{"\xff\xff" + strings.Repeat("m", 65535), strings.Repeat("m", 65535)},
	} {
		for _, behind := range []string{"", "x"} {
			r := reader.From([]byte(c.b + behind))
			if s := r.Text(); s != c.want {
				t.Errorf("Text of % x is % x, not % x", c.b, s, c.want)
			}
			stands(t, r, len(c.b), behind != "")
		}
	}
}

// P3.2: Part reads four bytes, a length, and so many bytes.
func TestPart(t *testing.T) {
	many := strings.Repeat("p", 65536)
	for _, c := range []struct{ b, want string }{
		{"\x00\x00\x00\x00", ""}, {"\x00\x00\x00\x02ab", "ab"}, {"\x00\x00\x00\x01\xff", "\xff"},
		{"\x00\x00\x01\x00" + many[:256], many[:256]},
		{"\x00\x01\x00\x00" + many, many},
	} {
		for _, behind := range []string{"", "x"} {
			r := reader.From([]byte(c.b + behind))
			if b := r.Part(); string(b) != c.want {
				t.Errorf("Part of % x is % x, not % x", c.b, b, c.want)
			}
			stands(t, r, len(c.b), behind != "")
		}
	}
}

// P3.2: Text and Part fail if a byte lacks, of the length or behind it, at the first place and behind others.
func TestLacks(t *testing.T) {
	for _, whole := range []string{"\x00\x00", "\x00\x02ab", "\x01\x02" + strings.Repeat("k", 258), "\x80\x00", "\xff\xff"} {
		for has := range len(whole) {
			r := reader.From([]byte(whole[:has]))
			if s := r.Text(); s != "" || failed(r) != "" {
				t.Errorf("Text of % x is % x, %s", whole[:has], s, failed(r))
			}
		}
	}
	for _, whole := range []string{"\x00\x00\x00\x00", "\x00\x00\x00\x02ab", "\x00\x00\x01\x02" + strings.Repeat("k", 258)} {
		for has := range len(whole) {
			r := reader.From([]byte("\x05" + whole[:has]))
			if r.Num(1) != 5 {
				t.Fatal("Num ahead of Part is another one")
			}
			if b := r.Part(); len(b) != 0 || failed(r) != "" {
				t.Errorf("Part of % x is % x, %s", whole[:has], b, failed(r))
			}
		}
	}
	for _, b := range []string{"\x7f\xff\xff\xffab", "\x80\x00\x00\x00ab", "\xff\xff\xff\xffab", "\xff\xff\xff\xfe"} {
		r := reader.From([]byte(b))
		if l := r.Part(); len(l) != 0 || failed(r) != "" {
			t.Errorf("Part of % x is % x, %s", b, l, failed(r))
		}
	}
	for _, b := range []string{"\xff\xff", "\x80\x00a", "\xff\xff" + strings.Repeat("m", 65534)} {
		r := reader.From([]byte(b))
		if s := r.Text(); s != "" || failed(r) != "" {
			t.Errorf("Text of %d bytes is % x, %s", len(b), s, failed(r))
		}
	}
}

// P3.2: the chapter's examples.
func TestExamples(t *testing.T) {
	if s := reader.From([]byte{0, 2, 'a', 'b'}).Text(); s != "ab" {
		t.Errorf("the Text is %q", s)
	}
	if n := reader.From([]byte{2, 0xff, 0x7f}).Int(); n != -129 {
		t.Errorf("the Int is %d", n)
	}
	r := reader.From([]byte{1})
	if n := r.Num(2); n != 0 || failed(r) != "" {
		t.Errorf("the Num is %d, %s", n, failed(r))
	}
}

// P3.3: a Writer is well at first, and has nothing.
func TestNew(t *testing.T) {
	w := reader.New()
	for range 3 {
		written(t, w, "")
	}
}

// P3.3: Num writes what Num of so many bytes reads as that, behind what is there.
func TestWriteNum(t *testing.T) {
	all, want := reader.New(), ""
	for _, c := range numbers {
		w := reader.New()
		w.Num(c.n, c.size)
		written(t, w, c.b)
		all.Num(c.n, c.size)
		want += c.b
		written(t, all, want)
	}
}

// P3.3: Num fails of a number below 0, or too great for its size, and of no size from 1 to 4.
func TestWriteNumFails(t *testing.T) {
	bad := []struct{ n, size int }{
		{256, 1}, {257, 1}, {65536, 1}, {1 << 32, 1}, {math.MaxInt, 1},
		{65536, 2}, {65537, 2}, {1 << 24, 2}, {math.MaxInt, 2},
		{1 << 24, 3}, {1<<24 + 5, 3}, {math.MaxInt, 3},
		{1 << 32, 4}, {1<<32 + 1, 4}, {1 << 40, 4}, {math.MaxInt, 4},
	}
	for _, size := range []int{1, 2, 3, 4} {
		for _, n := range []int{-1, -128, -255, -256, -65536, -1 << 24, -1 << 32, math.MinInt} {
			bad = append(bad, struct{ n, size int }{n, size})
		}
	}
	for _, size := range []int{0, -1, -4, math.MinInt, 5, 6, 8, 9, 64, math.MaxInt} {
		for _, n := range []int{0, 1, 255, -1} {
			bad = append(bad, struct{ n, size int }{n, size})
		}
	}
	for _, c := range bad {
		w := reader.New()
		w.Text("ahead")
		w.Num(c.n, c.size)
		if w.Ok() {
			t.Errorf("Num(%d, %d) does not fail", c.n, c.size)
		}
		refused(t, w)
	}
}

// P3.3: Int writes the count of the shortest bytes, and these.
func TestWriteInt(t *testing.T) {
	all, want := reader.New(), ""
	for _, c := range ints {
		w := reader.New()
		w.Int(c.n)
		written(t, w, c.b)
		all.Int(c.n)
		want += c.b
		written(t, all, want)
	}
}

// P3.3: Text writes two bytes, a length, and its own.
func TestWriteText(t *testing.T) {
	all, want := reader.New(), ""
	for _, s := range texts() {
		b := string([]byte{byte(len(s) >> 8), byte(len(s))}) + s
		w := reader.New()
		w.Text(s)
		written(t, w, b)
		all.Text(s)
		want += b
		written(t, all, want)
	}
}

// P3.3: Text fails of more than 65535 bytes; Part does not.
func TestWriteTextFails(t *testing.T) {
	for _, n := range []int{65536, 65537, 65538 + 65536} {
		w := reader.New()
		w.Num(1, 1)
		w.Text(strings.Repeat("x", n))
		refused(t, w)
		w = reader.New()
		w.Part(bytes.Repeat([]byte("x"), n))
		written(t, w, string([]byte{0, byte(n >> 16), byte(n >> 8), byte(n)})+strings.Repeat("x", n))
	}
}

// P3.3: Part writes four bytes, a length, and those that are handed in.
func TestWritePart(t *testing.T) {
	w := reader.New()
	w.Part(nil)
	written(t, w, "\x00\x00\x00\x00")
	w.Part([]byte{})
	written(t, w, "\x00\x00\x00\x00\x00\x00\x00\x00")
	w = reader.New()
	w.Part([]byte("ab"))
	w.Part(bytes.Repeat([]byte{0xff}, 258))
	written(t, w, "\x00\x00\x00\x02ab\x00\x00\x01\x02"+strings.Repeat("\xff", 258))
}

// P3.3: nil, and a Writer that New did not make, have nothing, and get nothing.
func TestNoWriter(t *testing.T) {
	var holder struct{ w reader.Writer }
	for _, w := range []*reader.Writer{nil, {}, new(reader.Writer), &holder.w} {
		refused(t, w)
	}
}

// kinds is how many kinds of pieces there are.
const kinds = 4

// piece has a piece of each kind: which one is written, and read, kind tells.
type piece struct {
	kind, num, size int
	n               int64
	s               string
}

// write writes the piece.
func (p piece) write(w *reader.Writer) {
	switch p.kind {
	case 0:
		w.Num(p.num, p.size)
	case 1:
		w.Int(p.n)
	case 2:
		w.Text(p.s)
	default:
		w.Part([]byte(p.s))
	}
}

// same reads such a piece, and says whether it is this one.
func (p piece) same(r *reader.Reader) bool {
	switch p.kind {
	case 0:
		return r.Num(p.size) == p.num
	case 1:
		return r.Int() == p.n
	case 2:
		return r.Text() == p.s
	default:
		return string(r.Part()) == p.s
	}
}

// pieces tells all kinds in turn, with all numbers, ints and texts.
func pieces() []piece {
	var l []piece
	s := texts()
	for i := range kinds * len(numbers) * len(s) / 2 {
		c := numbers[i%len(numbers)]
		p := piece{kind: i % kinds, num: c.n, size: c.size, n: ints[i%len(ints)].n, s: s[i%len(s)]}
		if i%7 == 0 {
			p.kind = (i / 7) % kinds
		}
		l = append(l, p)
	}
	return l
}

// P3.4: what is written is read, piece by piece, and then there is no More; each place is where the writing was.
func TestWrittenIsRead(t *testing.T) {
	w := reader.New()
	var ends []int
	all := pieces()
	for _, p := range all {
		p.write(w)
		ends = append(ends, len(w.Bytes()))
	}
	r := reader.From(w.Bytes())
	for i, p := range all {
		if !r.More() || !p.same(r) {
			t.Fatalf("piece %d, of kind %d, is another one", i, p.kind)
		}
		stands(t, r, ends[i], i < len(all)-1)
	}
	if r.Num(1) != 0 || failed(r) != "" {
		t.Errorf("behind the end: %s", failed(r))
	}
}

// P3.4: each piece alone, short of one byte, is not read; nothing beyond the end is.
func TestNoneBeyondTheEnd(t *testing.T) {
	for i, p := range pieces() {
		w := reader.New()
		p.write(w)
		// Behind the end, in the bytes that it is cut from, stand the byte that lacks, and more.
		b := append(w.Bytes(), "\x01\x01\x01\x01"...)
		r := reader.From(b[:len(w.Bytes())-1])
		p.same(r)
		if s := failed(r); s != "" {
			t.Errorf("piece %d, of kind %d, without its last byte: %s", i, p.kind, s)
		}
	}
}

// P3.4: no reading goes back: whatever is read, the place grows by what was read, till it fails or is at the end.
func TestNeverBack(t *testing.T) {
	b := bytes.Repeat([]byte{0, 0, 0, 1, 2, 0, 1, 1, 0xff, 0, 0, 4}, 40)
	for start := range 12 {
		for turn := range kinds * kinds {
			r := reader.From(b[start:])
			last := 0
			for i := 0; r.More() && i < 1000; i++ {
				piece{kind: (i*turn + turn/kinds) % kinds, size: 1 + i%4}.same(r)
				if r.Ok() && (r.At() <= last || r.At() > len(b)-start) {
					t.Fatalf("from %d it goes to %d", last, r.At())
				}
				last = r.At()
			}
			if r.More() || r.Ok() && r.At() != len(b)-start {
				t.Fatalf("it ends at %d, with more", r.At())
			}
		}
	}
}

// Rule 3: what is handed in stays, and no answer shares with it, or with what is read or written later.
func TestBytesStay(t *testing.T) {
	room := []byte("\x00\x00\x00\x02ab\x00\x00\x00\x02cd\x00\x01e")
	was := string(room)
	r := reader.From(room)
	first := r.Part()
	if cap(first) != 2 {
		t.Errorf("what is told has room for %d bytes", cap(first))
	}
	_ = append(first, "\xff\xff\xff\xff\xff"...)
	first[0] = 'x'
	second := r.Part()
	if string(second) != "cd" || r.Text() != "e" || !r.Ok() || r.More() {
		t.Errorf("an answer that was changed changes what is read later: % x", second)
	}
	if string(room) != was || string(first) != "xb" {
		t.Errorf("% x, or % x, became another one", room, first)
	}
	r = reader.From(room)
	room[4] = 'y'
	if b := r.Part(); string(b) != "ab" {
		t.Errorf("a Reader reads %q, which was handed in otherwise", b)
	}
}

// Rule 3: what a Writer tells stays, whatever is written behind it, and what it was handed is not kept.
func TestWrittenStays(t *testing.T) {
	w := reader.New()
	want := ""
	var told [][]byte
	// So many times, for the bytes that are kept are moved to a greater room now and then, and stay at other times.
	for i := range 40 {
		part := []byte{'a', byte(i), 'c'}
		w.Part(part)
		part[0] = 'x'
		want += string([]byte{0, 0, 0, 3, 'a', byte(i), 'c'})
		b := w.Bytes()
		if string(b) != want || cap(b) != len(b) {
			t.Fatalf("what is told is % x, with room for %d bytes", b, cap(b))
		}
		_ = append(b, "\xff\xff\xff\xff"...)
		b[0] = 'z'
		told = append(told, b)
		written(t, w, want)
		if part[0] != 'x' || part[2] != 'c' {
			t.Fatalf("what was handed in became % x", part)
		}
	}
	w.Num(0, 0)
	refused(t, w)
	for i, b := range told {
		if string(b) != "z"+want[1:7*(i+1)] {
			t.Errorf("what was told became % x", b)
		}
	}
}
