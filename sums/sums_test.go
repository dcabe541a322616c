package sums

import (
	"math"
	"math/rand"
	"strings"
	"testing"
)

// folded is the document's rule taken by its letter, as a measure that shares nothing with the package.
func folded(sum int) int {
	for sum > 65535 {
		sum = sum%65536 + sum/65536
	}
	return sum
}

// low is the lowest 16 bits, worked out without bits: what is left by 65536, lifted above 0.
func low(n int) int { return (n%65536 + 65536) % 65536 }

func plainOf(b string) int {
	if len(b)%2 == 1 {
		b += "\x00"
	}
	sum := 0
	for i := 0; i < len(b); i += 2 {
		sum += int(b[i])*256 + int(b[i+1])
	}
	return folded(sum)
}

func plainUpdate(check, m, n int) int {
	return 65535 - folded(65535-low(check)+65535-low(m)+low(n))
}

// edges are numbers at and around the bounds of a word and of a number, some of them no words.
var edges = []int{
	0, 1, 2, 255, 256, 32767, 32768, 65533, 65534, 65535,
	65536, 65537, 131071, 131072, 1 << 31, 1<<32 - 1, 1 << 32, 1<<32 + 5, 1 << 40, math.MaxInt - 1, math.MaxInt,
	-1, -2, -65534, -65535, -65536, -65537, -1 << 31, -1 << 32, math.MinInt + 1, math.MinInt,
}

// P1.1

func TestAddWords(t *testing.T) {
	for _, c := range []struct{ a, b, want int }{
		{0, 0, 0},
		{1, 2, 3},
		{0x1234, 0x4321, 0x5555},
		{65535, 0, 65535},
		{0, 65535, 65535},
		{65534, 1, 65535},
	} {
		if n := Add(c.a, c.b); n != c.want {
			t.Errorf("Add(%d, %d) = %d, not %d", c.a, c.b, n, c.want)
		}
	}
}

func TestAddPutsCarriesBack(t *testing.T) {
	for _, c := range []struct{ a, b, want int }{
		{65535, 1, 1},
		{65535, 2, 2},
		{32768, 32768, 1},
		{65535, 65535, 65535},
		{65535, 65534, 65534},
		{0xF000, 0x2345, 0x1346},
	} {
		if n := Add(c.a, c.b); n != c.want {
			t.Errorf("Add(%d, %d) = %d, not %d", c.a, c.b, n, c.want)
		}
	}
}

func TestAddTakesLowestBitsOfNoWords(t *testing.T) {
	for _, c := range []struct{ a, b, want int }{
		{-1, 0, 65535},
		{0, -1, 65535},
		{-1, -1, 65535},
		{-65535, 0, 1},
		{-65536, 7, 7},
		{65536, 0, 0},
		{1<<16 + 5, 1, 6},
		{1, 1<<16 + 5, 6},
		{1<<40 + 65535, 1, 1},
		{math.MaxInt, 1, 1},
		{math.MaxInt, math.MaxInt, 65535},
		{math.MinInt, math.MinInt, 0},
		{math.MinInt, 9, 9},
	} {
		if n := Add(c.a, c.b); n != c.want {
			t.Errorf("Add(%d, %d) = %d, not %d", c.a, c.b, n, c.want)
		}
	}
}

func TestAddOnAllEdges(t *testing.T) {
	for _, a := range edges {
		for _, b := range edges {
			if n, want := Add(a, b), folded(low(a)+low(b)); n != want {
				t.Errorf("Add(%d, %d) = %d, not %d", a, b, n, want)
			}
		}
	}
}

// P1.2

var texts = []struct {
	name, text string
	want       int
}{
	{"nothing", "", 0},
	{"one nought", "\x00", 0},
	{"two noughts", "\x00\x00", 0},
	{"the first byte is the higher", "\x12\x34", 0x1234},
	{"an odd only byte", "\x12", 0x1200},
	{"an odd last byte", "\x00\x01\x02", 0x0201},
	{"an odd last byte that carries", "\xff\x01\x01", 0x0002},
	{"a full word", "\xff\xff", 65535},
	{"two full words", "\xff\xff\xff\xff", 65535},
	{"65535 without a carry", "\xff\xfe\x00\x01", 65535},
	{"65535 by a carry", "\xff\xff\xff\xfe\x00\x01", 65535},
	{"a carry", "\xff\xff\x00\x01", 1},
	{"a carry ahead of a last word", "\x80\x00\x80\x00\x12\x34", 0x1235},
	{"several carries", "\x00\x01\xf2\x03\xf4\xf5\xf6\xf7", 0xDDF2},
	{"the carries carry", "\xff\xff\xff\xff\x00\x02\xff\xff", 2},
}

func TestOf(t *testing.T) {
	for _, c := range texts {
		if n := Of(c.text); n != c.want {
			t.Errorf("%s: Of(%q) = %x, not %x", c.name, c.text, n, c.want)
		}
	}
}

func TestCheck(t *testing.T) {
	for _, c := range texts {
		if n := Check(c.text); n != 65535-c.want {
			t.Errorf("%s: Check(%q) = %x, not %x", c.name, c.text, n, 65535-c.want)
		}
	}
}

func TestOfLongTexts(t *testing.T) {
	for _, c := range []struct {
		text string
		want int
	}{
		{strings.Repeat("\xff", 1<<20), 65535},
		{strings.Repeat("\xff", 1<<20+1), 0xFF00},
		{strings.Repeat("\x00", 1<<20), 0},
		{strings.Repeat("\xff\xfe", 1<<19), plainOf(strings.Repeat("\xff\xfe", 1<<19))},
	} {
		if n := Of(c.text); n != c.want {
			t.Errorf("Of %d bytes %q..: %x, not %x", len(c.text), c.text[:2], n, c.want)
		}
	}
}

func TestOfAndCheckOnManyTexts(t *testing.T) {
	draw := rand.New(rand.NewSource(1))
	for range 5000 {
		b := make([]byte, draw.Intn(80))
		for i := range b {
			b[i] = byte(draw.Intn(256)) | byte(draw.Intn(2)*255)
		}
		want := plainOf(string(b))
		if n := Of(string(b)); n != want {
			t.Fatalf("Of(%q) = %x, not %x", b, n, want)
		}
		if n := Check(string(b)); n != 65535-want {
			t.Fatalf("Check(%q) = %x, not %x", b, n, 65535-want)
		}
	}
}

func TestTextWithItsCheckSumsToFull(t *testing.T) {
	for _, c := range texts {
		if len(c.text)%2 == 1 {
			continue
		}
		check := Check(c.text)
		if n := Of(c.text + string([]byte{byte(check >> 8), byte(check)})); n != 65535 {
			t.Errorf("%s: with its check %x, not ffff", c.name, n)
		}
	}
}

// P1.3

func TestUpdate(t *testing.T) {
	for _, c := range []struct{ check, m, n, want int }{
		{0xDD2F, 0x5555, 0x3285, 0},
		{0xFBF9, 0x0304, 0x0304, 0xFBF9},
		{0xFBF9, 0x0304, 0x0305, 0xFBF8},
		{0xFBF9, 0x0305, 0x0304, 0xFBFA},
		{0, 0, 0, 0},
		{0, 65535, 0, 0},
		{0, 0, 65535, 0},
		{0, 65535, 65535, 0},
		{1, 0, 1, 0},
		{65535, 65535, 0, 65535},
		{65535, 65535, 1, 65534},
		// A check of noughts alone turns to the other nought: the sum is 65535, never 0.
		{65535, 0, 0, 0},
		{65534, 1, 0, 0},
	} {
		if n := Update(c.check, c.m, c.n); n != c.want {
			t.Errorf("Update(%x, %x, %x) = %x, not %x", c.check, c.m, c.n, n, c.want)
		}
	}
}

func TestUpdateTakesLowestBitsOfNoWords(t *testing.T) {
	for _, c := range []struct{ check, m, n, want int }{
		{0xDD2F + 1<<16, 0x5555, 0x3285, 0},
		{0xDD2F, 0x5555 + 1<<20, 0x3285, 0},
		{0xDD2F, 0x5555, 0x3285 + 1<<40, 0},
		{0xFBF9 - 1<<16, 0x0304, 0x0305, 0xFBF8},
		{0xFBF9, 0x0304 - 1<<33, 0x0305, 0xFBF8},
		{0xFBF9, 0x0304, 0x0305 - 1<<50, 0xFBF8},
		{-1, -1, 0, 65535},
		{math.MinInt, math.MinInt, math.MinInt, 0},
		{math.MaxInt, math.MaxInt, math.MinInt, 65535},
	} {
		if n := Update(c.check, c.m, c.n); n != c.want {
			t.Errorf("Update(%x, %x, %x) = %x, not %x", c.check, c.m, c.n, n, c.want)
		}
	}
}

func TestUpdateOnAllEdges(t *testing.T) {
	for _, check := range edges {
		for _, m := range edges {
			for _, n := range edges {
				if got, want := Update(check, m, n), plainUpdate(check, m, n); got != want {
					t.Errorf("Update(%d, %d, %d) = %d, not %d", check, m, n, got, want)
				}
			}
		}
	}
}

func TestUpdateIsTheCheckOfTheChangedText(t *testing.T) {
	draw := rand.New(rand.NewSource(2))
	for range 5000 {
		b := make([]byte, 2+2*draw.Intn(20))
		for i := range b {
			b[i] = byte(1 + draw.Intn(255))
		}
		check := Check(string(b))
		at := 2 * draw.Intn(len(b)/2)
		m, n := int(b[at])*256+int(b[at+1]), 1+draw.Intn(65535)
		b[at], b[at+1] = byte(n>>8), byte(n)
		if got, want := Update(check, m, n), Check(string(b)); got != want {
			t.Fatalf("Update(%x, %x, %x) = %x, but Check(%q) = %x", check, m, n, got, b, want)
		}
	}
}
