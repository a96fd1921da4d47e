package tests

import (
	"bytes"
	"math"
	"strings"
	"testing"
	"unicode/utf8"

	"loop.example/g00129/impl"
)

// slowCrc is the sum step by step, as chapter 1 words it.
func slowCrc(b []byte) int {
	sum := 65535
	for _, x := range b {
		sum ^= int(x)
		for range 8 {
			low := sum % 2
			sum /= 2
			if low == 1 {
				sum ^= 40961
			}
		}
	}
	return sum
}

// withCrc is b with its sum behind it, the lower byte first.
func withCrc(b []byte) []byte {
	sum := impl.Crc(b)
	return append(bytes.Clone(b), byte(sum), byte(sum>>8))
}

func TestCrcKnown(t *testing.T) {
	known := []struct {
		b    []byte
		want int
	}{
		{nil, 65535},
		{[]byte{}, 65535},
		{[]byte{0}, 0x40BF},
		{[]byte("123456789"), 0x4B37},
		{[]byte{1, 3, 0, 0, 0, 1}, 0x0A84},
		{[]byte{255, 255}, 0},
	}
	for _, k := range known {
		if got := impl.Crc(k.b); got != k.want {
			t.Errorf("Crc(%v) is %#x, not %#x", k.b, got, k.want)
		}
	}
}

func TestCrcStepByStep(t *testing.T) {
	for n := range 65536 {
		b := []byte{byte(n >> 8), byte(n)}
		if got, want := impl.Crc(b), slowCrc(b); got != want {
			t.Fatalf("Crc(%v) is %#x, not %#x", b, got, want)
		}
	}
	for _, b := range sampleLists() {
		if got, want := impl.Crc(b), slowCrc(b); got != want {
			t.Errorf("Crc of %d bytes is %#x, not %#x", len(b), got, want)
		}
	}
}

func TestCrcWithItselfIsNothing(t *testing.T) {
	for _, b := range sampleLists() {
		if got := impl.Crc(withCrc(b)); got != 0 {
			t.Errorf("%v with its sum behind it has the sum %#x", b, got)
		}
	}
	b := []byte{1, 3, 0, 0, 0, 1}
	sum := impl.Crc(b)
	if impl.Crc(append(b, byte(sum>>8), byte(sum))) == 0 {
		t.Error("the upper byte first must not be right too")
	}
}

func TestCrcTellsATurnedBit(t *testing.T) {
	for _, b := range sampleLists() {
		frame := withCrc(b)
		for bit := range 8 * len(frame) {
			frame[bit/8] ^= 1 << (bit % 8)
			if impl.Crc(frame) == 0 {
				t.Fatalf("bit %d turned in %v is not told", bit, frame)
			}
			if bit < 8*len(b) && impl.Crc(frame[:len(b)]) == impl.Crc(b) {
				t.Fatalf("bit %d turned in %v leaves the sum as it was", bit, b)
			}
			frame[bit/8] ^= 1 << (bit % 8)
		}
	}
}

func TestLrcKnown(t *testing.T) {
	known := []struct {
		b    []byte
		want int
	}{
		{nil, 0},
		{[]byte{}, 0},
		{[]byte{0}, 0},
		{[]byte{1}, 255},
		{[]byte{255}, 1},
		{[]byte{128}, 128},
		{[]byte{128, 128}, 0},
		{[]byte{255, 1}, 0},
		{[]byte{1, 3, 0, 0, 0, 1}, 0xFB},
	}
	for _, k := range known {
		if got := impl.Lrc(k.b); got != k.want {
			t.Errorf("Lrc(%v) is %d, not %d", k.b, got, k.want)
		}
	}
}

func TestLrcMakesAMultiple(t *testing.T) {
	for _, b := range sampleLists() {
		got := impl.Lrc(b)
		sum := got
		for _, x := range b {
			sum += int(x)
		}
		if got < 0 || got > 255 || sum%256 != 0 {
			t.Errorf("Lrc of %d bytes is %d, with it they are %d", len(b), got, sum)
		}
		if impl.Lrc(append(bytes.Clone(b), byte(got))) != 0 {
			t.Errorf("%v with its Lrc behind it has one that is not 0", b)
		}
	}
}

func TestLrcTellsATurnedBit(t *testing.T) {
	for _, list := range sampleLists() {
		b := bytes.Clone(list)
		want := impl.Lrc(b)
		for bit := range 8 * len(b) {
			b[bit/8] ^= 1 << (bit % 8)
			if impl.Lrc(b) == want {
				t.Fatalf("bit %d turned in %v is not told", bit, list)
			}
			b[bit/8] ^= 1 << (bit % 8)
		}
	}
}

func TestHexForm(t *testing.T) {
	if got := impl.Hex([]byte{0, 1, 9, 10, 15, 16, 159, 160, 171, 255}); got != "0001090A0F109FA0ABFF" {
		t.Errorf("Hex tells %q", got)
	}
	if impl.Hex(nil) != "" || impl.Hex([]byte{}) != "" {
		t.Error("Hex of no bytes is not empty")
	}
}

func TestHexComesBack(t *testing.T) {
	lists := sampleLists()
	for n := range 256 {
		lists = append(lists, []byte{byte(n)})
	}
	for _, b := range lists {
		text := impl.Hex(b)
		if len(text) != 2*len(b) || strings.Trim(text, "0123456789ABCDEF") != "" {
			t.Errorf("Hex(%v) is %q", b, text)
		}
		if got, ok := impl.UnHex(text); !ok || !bytes.Equal(got, b) {
			t.Errorf("UnHex(%q) is %v, %t, not %v", text, got, ok, b)
		}
	}
}

func refuseHex(t *testing.T, s string) {
	t.Helper()
	if b, ok := impl.UnHex(s); ok || len(b) != 0 {
		t.Fatalf("UnHex(%q) is %v, %t, not nothing and false", s, b, ok)
	}
}

func TestUnHexRefuses(t *testing.T) {
	wrong := []string{
		"0", "F", "000", "00A", "ABCDE",
		"0a", "a0", "ff", "00f0", "00AB0f",
		"G0", "0G", "@0", "0@", "/0", "0/", ":0", "0:", "`0",
		" 0", "0 ", "00 ", " 00", "00 00", "00  ", "0000 0",
		"0x00", "+1", "-1", "1.", "1_", "\n0", "\x00\x00", "00\r\n",
		"é", "éé", "0é0", "1é", "é1", "\u0130", "\u0130\u0130", "\uff11\uff12", "\u0661\u0662", "\u0391\u0391", "😀",
		"\xff", "\xff\xff", "0\xff", "\xc3", "0\xc3", "00\xc3\x28", "\ufffd0",
	}
	for _, s := range wrong {
		refuseHex(t, s)
		refuseHex(t, "12AB"+s)
		// An odd one ahead of one digit makes an even count: the sign itself must be refused.
		if strings.Trim(s, "0123456789ABCDEF") != "" {
			refuseHex(t, s+"0")
			refuseHex(t, s+s)
		}
	}
}

func TestUnHexOfAllPairs(t *testing.T) {
	const digits = "0123456789ABCDEF"
	for n := range 65536 {
		s := string([]byte{byte(n >> 8), byte(n)})
		hi, lo := strings.IndexByte(digits, s[0]), strings.IndexByte(digits, s[1])
		if hi < 0 || lo < 0 {
			refuseHex(t, s)
			continue
		}
		if b, ok := impl.UnHex(s); !ok || len(b) != 1 || int(b[0]) != 16*hi+lo {
			t.Fatalf("UnHex(%q) is %v, %t", s, b, ok)
		}
	}
}

func TestUnHexOfWideSigns(t *testing.T) {
	for r := rune(utf8.RuneSelf); r <= utf8.MaxRune; r++ {
		s := string(r)
		refuseHex(t, s+s)
	}
}

func TestPutWord(t *testing.T) {
	known := []struct{ n, want int }{
		{0, 0}, {1, 1}, {255, 255}, {256, 256}, {258, 258}, {32767, 32767}, {32768, 32768}, {65535, 65535},
		{65536, 0}, {65537, 1}, {131071, 65535}, {131072, 0}, {1 << 32, 0}, {1<<32 + 515, 515},
		{-1, 65535}, {-2, 65534}, {-255, 65281}, {-256, 65280}, {-257, 65279}, {-32768, 32768}, {-65535, 1}, {-65536, 0}, {-65537, 65535},
		{math.MaxInt, 65535}, {math.MaxInt - 1, 65534}, {math.MinInt, 0}, {math.MinInt + 1, 1},
	}
	for _, k := range known {
		for _, b := range [][]byte{nil, {}, {9}, {1, 2, 3}} {
			want := append(bytes.Clone(b), byte(k.want/256), byte(k.want%256))
			if got := impl.PutWord(b, k.n); !bytes.Equal(got, want) {
				t.Errorf("PutWord(%v, %d) is %v, not %v", b, k.n, got, want)
			}
		}
	}
}

func TestWordsComeBack(t *testing.T) {
	for n := range 65536 {
		b := impl.PutWord([]byte{7}, n)
		if got, ok := impl.WordAt(b, 1); len(b) != 3 || !ok || got != n {
			t.Fatalf("%d came back as %d, %t of %v", n, got, ok, b)
		}
	}
	b := []byte{}
	for n := range 100 {
		b = impl.PutWord(b, n*655)
	}
	for n := range 100 {
		if got, ok := impl.WordAt(b, 2*n); !ok || got != n*655 {
			t.Errorf("the word %d is %d, %t", n, got, ok)
		}
	}
}

func TestWordAtEachPlace(t *testing.T) {
	for _, b := range sampleLists() {
		for at := -3; at <= len(b)+3; at++ {
			got, ok := impl.WordAt(b, at)
			there := at >= 0 && at+1 < len(b)
			want := 0
			if there {
				want = int(b[at])*256 + int(b[at+1])
			}
			if ok != there || got != want {
				t.Errorf("WordAt of %d bytes at %d is %d, %t, not %d, %t", len(b), at, got, ok, want, there)
			}
		}
		for _, at := range []int{math.MinInt, math.MinInt + 1, math.MaxInt - 1, math.MaxInt, -1 << 32, 1 << 32} {
			if got, ok := impl.WordAt(b, at); ok || got != 0 {
				t.Errorf("WordAt of %d bytes at %d is %d, %t", len(b), at, got, ok)
			}
		}
	}
}

func TestWordAtReadsNothingBehind(t *testing.T) {
	whole := []byte{1, 2, 3, 4}
	for n := range 2 {
		if got, ok := impl.WordAt(whole[:n], 0); ok || got != 0 {
			t.Errorf("of %d bytes a word %d was read", n, got)
		}
	}
	if got, ok := impl.WordAt(whole[:3], 2); ok || got != 0 {
		t.Errorf("half a word was read as %d", got)
	}
}

// edgeTicks: ticks near each place where a count may go wrong.
var edgeTicks = []int{
	0, 1, 2, 65535, 65536, 1<<31 - 2, 1<<31 - 1, 1 << 31, 1<<31 + 1, 1<<31 + 2,
	impl.MaxTick - 65536, impl.MaxTick - 2, impl.MaxTick - 1, impl.MaxTick,
}

// noTicks: numbers that are none.
var noTicks = []int{-1, -2, -1 << 31, -1 << 32, impl.MaxTick + 1, impl.MaxTick + 2, 1 << 33, math.MaxInt, math.MaxInt - 1, math.MinInt, math.MinInt + 1}

func TestTickOn(t *testing.T) {
	if impl.MaxTick != 1<<32-1 {
		t.Fatalf("MaxTick is %d", impl.MaxTick)
	}
	known := []struct{ t, n, want int }{
		{0, 0, 0}, {5, 0, 5}, {5, 7, 12},
		{impl.MaxTick, 0, impl.MaxTick}, {impl.MaxTick, 1, 0}, {impl.MaxTick, 2, 1}, {impl.MaxTick - 1, 1, impl.MaxTick},
		{0, impl.MaxTick, impl.MaxTick}, {1, impl.MaxTick, 0}, {impl.MaxTick, impl.MaxTick, impl.MaxTick - 1},
		{1 << 31, 1 << 31, 0}, {1 << 31, 1<<31 - 1, impl.MaxTick},
	}
	for _, k := range known {
		if got := impl.TickOn(k.t, k.n); got != k.want {
			t.Errorf("TickOn(%d, %d) is %d, not %d", k.t, k.n, got, k.want)
		}
	}
}

func TestTickGap(t *testing.T) {
	known := []struct{ from, to, want int }{
		{0, 0, 0}, {5, 5, 0}, {5, 12, 7}, {12, 5, impl.MaxTick - 6},
		{impl.MaxTick, 0, 1}, {impl.MaxTick, 1, 2}, {1, impl.MaxTick, impl.MaxTick - 1},
		{0, impl.MaxTick, impl.MaxTick}, {1, 0, impl.MaxTick}, {impl.MaxTick, impl.MaxTick, 0},
		{0, 1 << 31, 1 << 31}, {1 << 31, 0, 1 << 31},
	}
	for _, k := range known {
		if got := impl.TickGap(k.from, k.to); got != k.want {
			t.Errorf("TickGap(%d, %d) is %d, not %d", k.from, k.to, got, k.want)
		}
	}
}

func TestTicksComeBack(t *testing.T) {
	for _, a := range edgeTicks {
		for _, n := range edgeTicks {
			on := impl.TickOn(a, n)
			if on < 0 || on > impl.MaxTick || on != (a+n)%(impl.MaxTick+1) {
				t.Errorf("TickOn(%d, %d) is %d", a, n, on)
			}
			if got := impl.TickGap(a, on); got != n {
				t.Errorf("TickGap(%d, %d) is %d, not %d", a, on, got, n)
			}
			if got := impl.TickOn(a, impl.TickGap(a, n)); got != n {
				t.Errorf("from %d on by the gap to %d is %d", a, n, got)
			}
		}
	}
}

func TestTickDue(t *testing.T) {
	const half = 1 << 31
	gaps := []struct {
		gap  int
		want bool
	}{
		{0, true}, {1, true}, {half - 2, true}, {half - 1, true},
		{half, false}, {half + 1, false}, {impl.MaxTick - 1, false}, {impl.MaxTick, false},
	}
	for _, due := range edgeTicks {
		for _, g := range gaps {
			now := (due + g.gap) % (impl.MaxTick + 1)
			if got := impl.TickDue(now, due); got != g.want {
				t.Errorf("TickDue(%d, %d) is %t at a gap of %d", now, due, got, g.gap)
			}
		}
	}
}

func TestNoTicks(t *testing.T) {
	for _, bad := range noTicks {
		for _, other := range append(append([]int{}, edgeTicks...), noTicks...) {
			for _, pair := range [][2]int{{bad, other}, {other, bad}} {
				if got := impl.TickOn(pair[0], pair[1]); got != 0 {
					t.Errorf("TickOn(%d, %d) is %d", pair[0], pair[1], got)
				}
				if got := impl.TickGap(pair[0], pair[1]); got != 0 {
					t.Errorf("TickGap(%d, %d) is %d", pair[0], pair[1], got)
				}
				if impl.TickDue(pair[0], pair[1]) {
					t.Errorf("TickDue(%d, %d) is true", pair[0], pair[1])
				}
			}
		}
	}
}

func TestWiresWriteIntoNoArgument(t *testing.T) {
	for _, list := range sampleLists() {
		b, unchanged := roomy(t, list)
		impl.Crc(b)
		unchanged("Crc")
		impl.Lrc(b)
		unchanged("Lrc")
		impl.Hex(b)
		unchanged("Hex")
		impl.WordAt(b, 0)
		unchanged("WordAt")
		impl.PutWord(b, 0x1234)
		unchanged("PutWord")
	}
}

func TestPutWordAnswersNewMemory(t *testing.T) {
	for _, list := range sampleLists() {
		b, unchanged := roomy(t, list)
		first, second := impl.PutWord(b, 1), impl.PutWord(b, 2)
		want := bytes.Clone(second)
		for i := range first {
			first[i] ^= 255
		}
		unchanged("an answer that is written into")
		if !bytes.Equal(second, want) {
			t.Errorf("two answers share memory: %v", second)
		}
		for i := range b {
			b[i] ^= 255
		}
		if !bytes.Equal(second, want) {
			t.Errorf("an answer shares memory with its argument: %v", second)
		}
	}
}

func TestHexAnswersNewMemory(t *testing.T) {
	b := []byte{0, 171, 15}
	text := impl.Hex(b)
	clear(b)
	if text != "00AB0F" {
		t.Errorf("Hex changed with its argument: %q", text)
	}
	first, _ := impl.UnHex(text)
	second, _ := impl.UnHex(text)
	clear(first)
	if !bytes.Equal(second, []byte{0, 171, 15}) || text != "00AB0F" {
		t.Errorf("answers of UnHex share memory: %v", second)
	}
}
