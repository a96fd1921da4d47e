package tests

import (
	"bytes"
	"fmt"
	"math"
	"slices"
	"strings"
	"testing"

	"loop.example/g00129/impl"
)

const mostHeard = 600

// hexText is two digits for each byte, written without chapter 1.
func hexText(b []byte) string { return fmt.Sprintf("%X", b) }

// withLrc is b and, behind it, the byte that makes the sum of all a multiple of 256.
func withLrc(b []byte) []byte {
	sum := 0
	for _, x := range b {
		sum += int(x)
	}
	return append(bytes.Clone(b), byte((256-sum%256)%256))
}

// lineOf is these bytes in digits between a colon and a line's end; no sum is added.
func lineOf(within []byte) []byte { return []byte(":" + hexText(within) + "\r\n") }

// digitsFrame is the frame of a unit and bytes, as chapter 7 words it.
func digitsFrame(unit int, pdu []byte) []byte {
	return lineOf(withLrc(append([]byte{byte(unit)}, pdu...)))
}

func equalAscii(a impl.Ascii, b impl.Ascii) bool {
	return bytes.Equal(a.Buf, b.Buf) && a.Open == b.Open && a.Last == b.Last && a.Wait == b.Wait
}

// slowDigits is GetAscii as a Got, as chapter 7 words it.
func slowDigits(b []byte) impl.Got {
	digits, begun := strings.CutPrefix(string(b), ":")
	digits, ended := strings.CutSuffix(digits, "\r\n")
	if !begun || !ended || len(digits)%2 != 0 || strings.Trim(digits, "0123456789ABCDEF") != "" {
		return impl.Got{Code: impl.FrameForm}
	}
	var within []byte
	for i := 0; i < len(digits); i += 2 {
		var x byte
		fmt.Sscanf(digits[i:i+2], "%X", &x)
		within = append(within, x)
	}
	switch n := len(within); {
	case n < 3:
		return impl.Got{Code: impl.FrameShort}
	case n > 255:
		return impl.Got{Code: impl.FrameLong}
	case !bytes.Equal(withLrc(within[:n-1]), within):
		return impl.Got{Code: impl.FrameSum}
	default:
		return impl.Got{Unit: int(within[0]), Pdu: within[1 : n-1]}
	}
}

// getsDigits wants this of GetAscii.
func getsDigits(t *testing.T, b []byte, want impl.Got) {
	t.Helper()
	if unit, pdu, code := impl.GetAscii(b); !equalGot(impl.Got{Code: code, Unit: unit, Pdu: pdu}, want) {
		t.Errorf("GetAscii of %d bytes, %q, is %d, %x, %d, not %v", len(b), b, unit, pdu, code, want)
	}
}

// refusesDigits wants 0, nothing and this code of GetAscii.
func refusesDigits(t *testing.T, text string, code int) {
	t.Helper()
	getsDigits(t, []byte(text), impl.Got{Code: code})
}

func TestPutAsciiKnown(t *testing.T) {
	known := []struct {
		unit int
		pdu  []byte
		want string
	}{
		{1, []byte{3, 0, 0, 0, 1}, ":010300000001FB\r\n"},
		{17, []byte{3, 0, 0x6B, 0, 3}, ":1103006B00037E\r\n"},
		{1, []byte{2}, ":0102FD\r\n"},
		{0, []byte{0}, ":000000\r\n"},
		{255, []byte{255}, ":FFFF02\r\n"},
		{255, []byte{1}, ":FF0100\r\n"},
		{171, []byte{0xCD, 0xEF}, ":ABCDEF99\r\n"},
	}
	for _, k := range known {
		if b := impl.PutAscii(k.unit, k.pdu); string(b) != k.want {
			t.Errorf("PutAscii(%d, %x) is %q, not %q", k.unit, k.pdu, b, k.want)
		}
		getsDigits(t, []byte(k.want), impl.Got{Unit: k.unit, Pdu: k.pdu})
	}
}

func TestAsciiFramesComeBack(t *testing.T) {
	for _, unit := range []int{0, 1, 9, 127, 128, 247, 254, 255} {
		for n := 1; n <= 253; n++ {
			for _, pdu := range [][]byte{make([]byte, n), sampleBytes(uint32(n), n), bytes.Repeat([]byte{255}, n)} {
				b := impl.PutAscii(unit, pdu)
				if !bytes.Equal(b, digitsFrame(unit, pdu)) {
					t.Fatalf("PutAscii(%d, %x) is %q", unit, pdu, b)
				}
				getsDigits(t, b, impl.Got{Unit: unit, Pdu: pdu})
			}
		}
	}
	for unit := range 256 {
		for x := range 256 {
			getsDigits(t, impl.PutAscii(unit, []byte{byte(x)}), impl.Got{Unit: unit, Pdu: []byte{byte(x)}})
		}
	}
}

func TestPutAsciiRefuses(t *testing.T) {
	for _, unit := range []int{-1, -2, -255, -256, 256, 257, 511, 512, 1 << 32, math.MaxInt, math.MaxInt - 1, math.MinInt, math.MinInt + 1} {
		for _, n := range []int{0, 1, 253, 254} {
			if b := impl.PutAscii(unit, make([]byte, n)); len(b) != 0 {
				t.Errorf("PutAscii(%d, %d bytes) is %q", unit, n, b)
			}
		}
	}
	for _, unit := range []int{0, 1, 255} {
		for _, pdu := range [][]byte{nil, {}, make([]byte, 0, 9), make([]byte, 254), make([]byte, 255), make([]byte, 256), make([]byte, 1000)} {
			if b := impl.PutAscii(unit, pdu); len(b) != 0 {
				t.Errorf("PutAscii(%d, %d bytes) is %q", unit, len(pdu), b)
			}
		}
		for _, n := range []int{1, 253} {
			if b := impl.PutAscii(unit, make([]byte, n)); len(b) != 2*n+7 {
				t.Errorf("PutAscii(%d, %d bytes) has %d bytes", unit, n, len(b))
			}
		}
	}
}

func TestGetAsciiWithoutItsForm(t *testing.T) {
	wrong := []string{"", ":", "\r", "\n", "\r\n", ":\r", ":\n", ":\n\r", "\r\n:", "::\r\n", ":\r\n\r\n", "0102FD", "0102FD\r\n", ":0102FD", ":0102FD\r", ":0102FD\n", ":0102FD\n\r",
		":0102FD\r\r", ":0102FD\n\n", ":0102FD\r\n\n", ":0102FD\r\n ", " :0102FD\r\n", "::0102FD\r\n", ";0102FD\r\n", ":0102FD \r\n", ": 0102FD\r\n", ":01 02 FD\r\n", ":0102fd\r\n", ":0102fD\r\n", ":0102Fd\r\n",
		":0102F\r\n", ":102FD\r\n", ":0\r\n", ":0102FD0\r\n", ":0102FG\r\n", ":01@2FD\r\n", ":01/2FD\r\n", ":01:2FD\r\n", ":0x02FD\r\n", ":+102FD\r\n", ":-102FD\r\n", ":0102FD\r\n:0102FD\r\n",
		":0102FD\r\n\x00", ":01\x00\x00FD\r\n", ":01\xffFFD\r\n", ":0102\xc3\xa9\r\n", ":\xff\xff\xff\xff\xff\xff\r\n", ":０１\r\n", ":0102FD\u2028"}
	for _, text := range wrong {
		refusesDigits(t, text, impl.FrameForm)
	}
	getsDigits(t, nil, impl.Got{Code: impl.FrameForm})
	getsDigits(t, make([]byte, 0, 20), impl.Got{Code: impl.FrameForm})
}

func TestGetAsciiSizes(t *testing.T) {
	for _, n := range []int{0, 1, 2} {
		// a right sum does not help, nor does a wrong one show
		getsDigits(t, lineOf(make([]byte, n)), impl.Got{Code: impl.FrameShort})
		getsDigits(t, lineOf(sampleBytes(110, n)), impl.Got{Code: impl.FrameShort})
	}
	getsDigits(t, lineOf(withLrc([]byte{7})), impl.Got{Code: impl.FrameShort})
	for _, n := range []int{3, 4, 254, 255} {
		within := withLrc(sampleBytes(111, n-1))
		getsDigits(t, lineOf(within), impl.Got{Unit: int(within[0]), Pdu: within[1 : n-1]})
		within[n-1]++
		getsDigits(t, lineOf(within), impl.Got{Code: impl.FrameSum})
	}
	for _, n := range []int{256, 257, 298, 299, 300, 1000, 5000} {
		within := withLrc(sampleBytes(112, n-1))
		getsDigits(t, lineOf(within), impl.Got{Code: impl.FrameLong})
		within[n-1]++
		getsDigits(t, lineOf(within), impl.Got{Code: impl.FrameLong})
	}
}

// What has no form is told so, whatever its size and its sum are.
func TestGetAsciiTellsTheFirstReason(t *testing.T) {
	for _, n := range []int{1, 2, 3, 255, 256, 300} {
		for _, within := range [][]byte{sampleBytes(113, n), withLrc(sampleBytes(113, n-1))} {
			whole := string(lineOf(within))
			body := whole[1 : len(whole)-2]
			for _, text := range []string{body + "\r\n", ":" + body + "\n", ":" + body + "\r", ":" + body, ":" + body[1:] + "\r\n", ":" + body + "0\r\n", ":" + "a" + body[1:] + "\r\n", ":" + body[:len(body)-1] + "g\r\n"} {
				refusesDigits(t, text, impl.FrameForm)
			}
		}
	}
}

func TestGetAsciiTellsATurnedBit(t *testing.T) {
	for _, n := range []int{1, 2, 5, 100, 253} {
		pdu := sampleBytes(114, n)
		b := digitsFrame(17, pdu)
		for bit := range 8 * len(b) {
			b[bit/8] ^= 1 << (bit % 8)
			want := slowDigits(b)
			if want.Code != impl.FrameForm && want.Code != impl.FrameSum {
				t.Fatalf("%q is no frame with a bit turned", b)
			}
			getsDigits(t, b, want)
			b[bit/8] ^= 1 << (bit % 8)
		}
		getsDigits(t, b, impl.Got{Unit: 17, Pdu: pdu})
	}
}

// Every byte at every place of a frame: one alone is that frame.
func TestGetAsciiOfEveryOtherByte(t *testing.T) {
	for _, b := range [][]byte{[]byte(":0102FD\r\n"), []byte(":\r\n"), []byte(":0AF6\r\n"), digitsFrame(9, []byte{0xAB, 0xC0})} {
		for at := range b {
			was := b[at]
			for x := range 256 {
				b[at] = byte(x)
				getsDigits(t, b, slowDigits(b))
			}
			b[at] = was
		}
	}
}

func TestGetAsciiCutOrLonger(t *testing.T) {
	b := digitsFrame(3, sampleBytes(115, 20))
	for n := range b {
		getsDigits(t, b[:n], impl.Got{Code: impl.FrameForm})
		getsDigits(t, b[n+1:], impl.Got{Code: impl.FrameForm})
	}
	for x := range 256 {
		getsDigits(t, append(bytes.Clone(b), byte(x)), impl.Got{Code: impl.FrameForm})
		getsDigits(t, append([]byte{byte(x)}, b...), impl.Got{Code: impl.FrameForm})
	}
}

// Of all sums behind a unit and bytes one alone is taken.
func TestGetAsciiOfEverySum(t *testing.T) {
	for _, within := range [][]byte{{0, 0}, {1, 255}, {9, 3, 4}, {255, 255, 255}} {
		right := withLrc(within)
		for sum := range 256 {
			want := impl.Got{Code: impl.FrameSum}
			if byte(sum) == right[len(within)] {
				want = impl.Got{Unit: int(within[0]), Pdu: within[1:]}
			}
			getsDigits(t, lineOf(append(bytes.Clone(within), byte(sum))), want)
		}
	}
}

func TestAsciiNew(t *testing.T) {
	for _, wait := range []int{math.MinInt, math.MinInt + 1, -1000, -1, 0, 1, 2, 500, 999, 1000, 1001, 1002, 1 << 32, math.MaxInt - 1, math.MaxInt} {
		right := wait >= 1 && wait <= 1000
		want := impl.Ascii{Wait: wait}
		if !right {
			want = impl.Ascii{}
		}
		a := impl.AsciiNew(wait)
		if !equalAscii(a, want) || impl.AsciiOk(a) != right {
			t.Errorf("AsciiNew(%d) is %v, AsciiOk %v", wait, a, impl.AsciiOk(a))
		}
		for _, other := range []impl.Ascii{{Wait: wait}, {Buf: []byte(":0"), Open: true, Last: 7, Wait: wait}} {
			if impl.AsciiOk(other) != right {
				t.Errorf("AsciiOk of %v is %v", other, !right)
			}
		}
	}
}

// heardBufs gives what may be heard of a frame that has not ended.
func heardBufs() [][]byte {
	list := [][]byte{[]byte(":"), []byte(":0"), []byte(":0102FD"), []byte(":0102FD\r"), []byte(":\r"), []byte(":x y\r0\x00\xff"), []byte(":0102fd\r"), []byte(":0102FE\r"), []byte(":01\r")}
	for _, n := range []int{509, 511, 515, 597, 598, 599, 600} {
		list = append(list, []byte(":"+strings.Repeat("0", n-1)), []byte(":"+strings.Repeat("0", n-2)+"\r"))
	}
	return list
}

// rightAsciis gives ones that are right: each field at its ends.
func rightAsciis() []impl.Ascii {
	var list []impl.Ascii
	for _, last := range []int{0, 1, 100, lastTick - 1, lastTick} {
		for _, wait := range []int{1, 2, 3, 999, 1000} {
			list = append(list, impl.Ascii{Last: last, Wait: wait}, impl.Ascii{Buf: make([]byte, 0, 9), Last: last, Wait: wait})
			for _, buf := range heardBufs() {
				list = append(list, impl.Ascii{Buf: buf, Open: true, Last: last, Wait: wait})
			}
		}
	}
	return list
}

// wrongAsciis gives ones that are not right: a field passed by one, or far from it.
func wrongAsciis() []impl.Ascii {
	long := []byte(":" + strings.Repeat("0", mostHeard))
	list := []impl.Ascii{{}, {Buf: []byte(":"), Open: true},
		{Buf: long, Open: true, Wait: 3}, {Buf: append(long, '0'), Open: true, Last: 7, Wait: 1000}, {Buf: long, Wait: 3},
		{Open: true, Wait: 3}, {Buf: []byte{}, Open: true, Last: 7, Wait: 3}, {Buf: append(make([]byte, 0, 9), ':')[:0], Open: true, Wait: 3},
		{Buf: []byte(":"), Wait: 3}, {Buf: []byte(":0102FD\r"), Last: 7, Wait: 3}, {Buf: []byte{0}, Wait: 3}, {Buf: []byte("0102"), Wait: 3}}
	for _, buf := range []string{"0", "\x00", "\xff", "\r", "\n", ";", "9", "0:", " :0102", "0102FD\r", "\r\n:"} {
		list = append(list, impl.Ascii{Buf: []byte(buf), Open: true, Last: 7, Wait: 3})
	}
	for _, last := range noTicks {
		list = append(list, impl.Ascii{Last: last, Wait: 3}, impl.Ascii{Buf: []byte(":01"), Open: true, Last: last, Wait: 3})
	}
	for _, wait := range []int{0, -1, -1000, 1001, 1002, 1 << 32, math.MaxInt, math.MinInt} {
		list = append(list, impl.Ascii{Wait: wait}, impl.Ascii{Buf: []byte(":01"), Open: true, Last: 7, Wait: wait})
	}
	return list
}

func TestAsciiOk(t *testing.T) {
	for _, a := range rightAsciis() {
		if !impl.AsciiOk(a) {
			t.Errorf("%v is not AsciiOk", a)
		}
	}
	for _, a := range wrongAsciis() {
		if impl.AsciiOk(a) {
			t.Errorf("%v is AsciiOk", a)
		}
	}
	roomyBuf := append(make([]byte, 0, 2000), ":"...)
	if !impl.AsciiOk(impl.Ascii{Buf: roomyBuf, Open: true, Wait: 3}) || !impl.AsciiOk(impl.Ascii{Buf: roomyBuf[:0], Wait: 3}) {
		t.Error("AsciiOk goes by the length alone")
	}
}

// slowAscii is AsciiHear of a right one and a tick, as chapter 7 words it.
func slowAscii(a impl.Ascii, b byte, tick int) (impl.Ascii, []impl.Got) {
	var told []impl.Got
	if a.Open && slowGap(a.Last, tick) >= a.Wait {
		told, a.Open = append(told, impl.Got{Code: impl.FrameGap}), false
	}
	switch {
	case b == ':':
		if a.Open {
			told = append(told, impl.Got{Code: impl.FrameForm})
		}
		a.Buf, a.Open = []byte{':'}, true
	case a.Open:
		a.Buf = append(bytes.Clone(a.Buf), b)
		if len(a.Buf) > mostHeard {
			told, a.Open = append(told, impl.Got{Code: impl.FrameLong}), false
		} else if b == '\n' {
			told, a.Open = append(told, slowDigits(a.Buf)), false
		}
	}
	a.Last = tick
	if !a.Open {
		a.Buf = nil
	}
	return a, told
}

// hearsDigit wants that a, of this byte at this tick, is this then and tells these.
func hearsDigit(t *testing.T, a impl.Ascii, b byte, tick int, want impl.Ascii, told ...impl.Got) {
	t.Helper()
	if is, got := impl.AsciiHear(a, b, tick); !equalAscii(is, want) || !equalGots(got, told) {
		t.Errorf("AsciiHear(%v, %q, %d) is %v, %v, not %v, %v", a, b, tick, is, got, want, told)
	}
}

// hearText hears all bytes at one tick, and gathers what was told.
func hearText(t *testing.T, a impl.Ascii, text string, tick int) (impl.Ascii, []impl.Got) {
	t.Helper()
	var all []impl.Got
	for i := range len(text) {
		var told []impl.Got
		a, told = impl.AsciiHear(a, text[i], tick)
		if !impl.AsciiOk(a) {
			t.Fatalf("behind %q: %v is not AsciiOk", text[:i+1], a)
		}
		all = append(all, told...)
	}
	return a, all
}

// tellsOf wants that a, of all these bytes at one tick, is this then and tells these.
func tellsOf(t *testing.T, a impl.Ascii, text string, tick int, want impl.Ascii, told ...impl.Got) impl.Ascii {
	t.Helper()
	is, got := hearText(t, a, text, tick)
	if !equalAscii(is, want) || !equalGots(got, told) {
		t.Errorf("%v, of %q at %d, is %v, %v, not %v, %v", a, text, tick, is, got, want, told)
	}
	return is
}

func TestAsciiRefuses(t *testing.T) {
	for _, a := range wrongAsciis() {
		for _, tick := range append([]int{0, 1, 7, 8, 9, 10, 1007, 2000, lastTick}, noTicks...) {
			for _, b := range []byte{':', '0', '\r', '\n'} {
				hearsDigit(t, a, b, tick, a)
			}
		}
	}
	for _, a := range rightAsciis() {
		for _, tick := range noTicks {
			for _, b := range []byte{':', '0', '\r', '\n'} {
				hearsDigit(t, a, b, tick, a)
			}
		}
	}
}

func TestAsciiAsWorded(t *testing.T) {
	for _, a := range rightAsciis() {
		for _, gap := range []int{0, 1, a.Wait - 1, a.Wait, a.Wait + 1, 999, 1000, 1001, 5000, 1<<31 - 1, 1 << 31, lastTick - 1, lastTick} {
			tick := later(a.Last, gap)
			for _, b := range []byte{':', '0', '9', 'A', 'F', 'a', 'G', ' ', '\r', '\n', 0, 255} {
				want, told := slowAscii(a, b, tick)
				hearsDigit(t, a, b, tick, want, told...)
				if !impl.AsciiOk(want) {
					t.Errorf("%v, which was heard, is not AsciiOk", want)
				}
			}
		}
	}
}

// A silence of Wait less one is none; of Wait, it ends what was open, and the byte is one between frames.
func TestWhichSilenceEndsAnOpenFrame(t *testing.T) {
	text := ":0102FD\r\n"
	for _, wait := range []int{1, 2, 3, 999, 1000} {
		for at := 1; at < len(text); at++ {
			for _, first := range []int{0, 100, lastTick - wait, lastTick - wait + 1, lastTick - 1, lastTick} {
				a, _ := hearText(t, impl.AsciiNew(wait), text[:at], first)
				short := later(first, wait-1)
				rest := impl.Ascii{Last: short, Wait: wait}
				tellsOf(t, a, text[at:], short, rest, impl.Got{Unit: 1, Pdu: []byte{2}})
				for _, silence := range []int{wait, wait + 1, 5000, lastTick} {
					tick := later(first, silence)
					hearsDigit(t, a, text[at], tick, impl.Ascii{Last: tick, Wait: wait}, impl.Got{Code: impl.FrameGap})
					tellsOf(t, a, text[at:], tick, impl.Ascii{Last: tick, Wait: wait}, impl.Got{Code: impl.FrameGap})
				}
			}
		}
	}
}

// Where nothing is open there is nothing to end, however long the silence is.
func TestASilenceBetweenFramesIsNotTold(t *testing.T) {
	for _, wait := range []int{1, 3, 1000} {
		for _, silence := range []int{wait - 1, wait, wait + 1, 5000, 1 << 31, lastTick} {
			for _, last := range []int{0, 50, lastTick} {
				a, tick := impl.Ascii{Last: last, Wait: wait}, later(last, silence)
				for _, b := range []byte{'0', '\r', '\n', 0, 255} {
					hearsDigit(t, a, b, tick, impl.Ascii{Last: tick, Wait: wait})
				}
				hearsDigit(t, a, ':', tick, impl.Ascii{Buf: []byte(":"), Open: true, Last: tick, Wait: wait})
			}
		}
	}
}

// Each byte within Wait of the one ahead of it: the whole frame may take longer than Wait.
func TestSlowFramesAreTold(t *testing.T) {
	for _, wait := range []int{1, 2, 5, 1000} {
		for _, n := range []int{1, 5, 253} {
			pdu := sampleBytes(116, n)
			a, tick := impl.AsciiNew(wait), lastTick-20
			var all []impl.Got
			for _, x := range digitsFrame(77, pdu) {
				var told []impl.Got
				a, told = impl.AsciiHear(a, x, tick)
				all = append(all, told...)
				if a.Last != tick {
					t.Fatalf("Last is %d at %d", a.Last, tick)
				}
				tick = later(tick, wait-1)
			}
			if !equalGots(all, []impl.Got{{Unit: 77, Pdu: pdu}}) || a.Open || len(a.Buf) != 0 {
				t.Errorf("a frame with silences of %d is told as %v, then %v", wait-1, all, a)
			}
		}
	}
}

func TestTicksGoRoundWithinAFrame(t *testing.T) {
	a := impl.Ascii{Buf: []byte(":0102FD\r"), Open: true, Last: lastTick - 1, Wait: 4}
	for _, tick := range []int{lastTick - 1, lastTick, 0, 1} {
		hearsDigit(t, a, '\n', tick, impl.Ascii{Last: tick, Wait: 4}, impl.Got{Unit: 1, Pdu: []byte{2}})
	}
	// a tick that Last lies behind is a silence of nearly a whole round
	for _, tick := range []int{2, 3, 100, lastTick - 2} {
		hearsDigit(t, a, '\n', tick, impl.Ascii{Last: tick, Wait: 4}, impl.Got{Code: impl.FrameGap})
	}
}

// A colon within ends one frame as no form, and begins the next.
func TestAColonWithin(t *testing.T) {
	form, gap := impl.Got{Code: impl.FrameForm}, impl.Got{Code: impl.FrameGap}
	for _, buf := range heardBufs() {
		a := impl.Ascii{Buf: buf, Open: true, Last: 20, Wait: 3}
		for _, tick := range []int{20, 21, 22} {
			opened := impl.Ascii{Buf: []byte(":"), Open: true, Last: tick, Wait: 3}
			hearsDigit(t, a, ':', tick, opened, form)
			tellsOf(t, a, ":0102FD\r\n", tick, impl.Ascii{Last: tick, Wait: 3}, form, impl.Got{Unit: 1, Pdu: []byte{2}})
			tellsOf(t, a, ":::", tick, opened, form, form, form)
		}
		// behind a silence that was too long it is no longer within: the gap alone is told
		for _, tick := range []int{23, 24, 9000, 19} {
			hearsDigit(t, a, ':', tick, impl.Ascii{Buf: []byte(":"), Open: true, Last: tick, Wait: 3}, gap)
			tellsOf(t, a, ":0102FD\r\n", tick, impl.Ascii{Last: tick, Wait: 3}, gap, impl.Got{Unit: 1, Pdu: []byte{2}})
		}
	}
}

func TestBytesBetweenFramesArePassedOver(t *testing.T) {
	a := impl.AsciiNew(3)
	for x := range 256 {
		if x != ':' {
			hearsDigit(t, a, byte(x), x, impl.Ascii{Last: x, Wait: 3})
		}
	}
	junk := strings.ReplaceAll(string(sampleBytes(117, 3000)), ":", ";") + "\r\n\r\n\n\n0102FD\r\n"
	a = tellsOf(t, a, junk, 900, impl.Ascii{Last: 900, Wait: 3})
	tellsOf(t, a, ":0102FD\r\n"+junk+":0102FD\r\n", 900, impl.Ascii{Last: 900, Wait: 3}, impl.Got{Unit: 1, Pdu: []byte{2}}, impl.Got{Unit: 1, Pdu: []byte{2}})
}

// Frames of all sizes come back, whatever stands between them but a colon.
func TestFramesInDigitsComeBack(t *testing.T) {
	for _, tick := range []int{0, 50, lastTick} {
		a := impl.AsciiNew(1)
		var all, want []impl.Got
		for n := 1; n <= 253; n++ {
			pdu := sampleBytes(uint32(n), n)
			between := strings.ReplaceAll(string(sampleBytes(uint32(n)+118, n%40)), ":", "\n")
			var told []impl.Got
			a, told = hearText(t, a, between+string(impl.PutAscii(n, pdu)), tick)
			all, want = append(all, told...), append(want, impl.Got{Unit: n, Pdu: pdu})
		}
		if !equalGots(all, want) {
			t.Errorf("%d frames at %d are told as %d", len(want), tick, len(all))
		}
	}
}

// The 600th byte is kept; one more ends the frame as too long, and the rest is passed over.
func TestTheBytesThatAreHeardOfOneFrame(t *testing.T) {
	almost := impl.Ascii{Buf: []byte(":" + strings.Repeat("0", mostHeard-2)), Open: true, Last: 5, Wait: 3}
	full := impl.Ascii{Buf: append(bytes.Clone(almost.Buf), '7'), Open: true, Last: 6, Wait: 3}
	long := impl.Got{Code: impl.FrameLong}
	hearsDigit(t, almost, '7', 6, full)
	// the 600th byte may be the end: 597 digits are no Hex
	hearsDigit(t, almost, '\n', 6, impl.Ascii{Last: 6, Wait: 3}, impl.Got{Code: impl.FrameForm})
	for _, b := range []byte{'0', '7', 'F', '\r', '\n', ' ', 0, 255} {
		hearsDigit(t, full, b, 8, impl.Ascii{Last: 8, Wait: 3}, long)
		hearsDigit(t, full, b, 9, impl.Ascii{Last: 9, Wait: 3}, impl.Got{Code: impl.FrameGap})
	}
	// a colon is never put behind Buf: it is not the one byte too many
	hearsDigit(t, full, ':', 8, impl.Ascii{Buf: []byte(":"), Open: true, Last: 8, Wait: 3}, impl.Got{Code: impl.FrameForm})
	tellsOf(t, full, "00FD\r\n\r\n", 8, impl.Ascii{Last: 8, Wait: 3}, long)
	tellsOf(t, full, "00FD\r\n:0102FD\r\n", 8, impl.Ascii{Last: 8, Wait: 3}, long, impl.Got{Unit: 1, Pdu: []byte{2}})
	// with an end that comes as the 601st byte it is too long, and told once
	ending := impl.Ascii{Buf: []byte(":" + strings.Repeat("0", mostHeard-2) + "\r"), Open: true, Last: 6, Wait: 3}
	hearsDigit(t, ending, '\n', 6, impl.Ascii{Last: 6, Wait: 3}, long)
}

// By bytes from a colon on: where the end comes, and what is told there.
func TestHowManyBytesAreHeard(t *testing.T) {
	for n := 3; n <= 620; n++ {
		text := ":" + strings.Repeat("0", n-3) + "\r\n"
		want := slowDigits([]byte(text))
		if n > mostHeard {
			want = impl.Got{Code: impl.FrameLong}
		}
		tellsOf(t, impl.AsciiNew(3), text, 40, impl.Ascii{Last: 40, Wait: 3}, want)
		kept := min(n-1, mostHeard)
		a, told := hearText(t, impl.AsciiNew(3), text[:kept], 40)
		if len(told) != 0 || !a.Open || string(a.Buf) != text[:kept] || a.Last != 40 {
			t.Fatalf("of %d bytes: %v, %v", kept, a, told)
		}
	}
}

// A byte 10 ends what is open, whatever that is; a byte 13 alone ends nothing.
func TestAByteTenEnds(t *testing.T) {
	frames := map[string]impl.Got{
		":0102FD\r\n":                     {Unit: 1, Pdu: []byte{2}},
		":000000\r\n":                     {Pdu: []byte{0}},
		":\n":                             {Code: impl.FrameForm},
		":\r\n":                           {Code: impl.FrameShort},
		":0102\r\n":                       {Code: impl.FrameShort},
		":0102FE\r\n":                     {Code: impl.FrameSum},
		":0102FD\n":                       {Code: impl.FrameForm},
		":0102fd\r\n":                     {Code: impl.FrameForm},
		":0102F\r\n":                      {Code: impl.FrameForm},
		":0102FD\r\r\n":                   {Code: impl.FrameForm},
		":01\r02FD\r\n":                   {Code: impl.FrameForm},
		":01\x0002FD\r\n":                 {Code: impl.FrameForm},
		string(lineOf(sampleWithin(255))): {Unit: 8, Pdu: sampleWithin(255)[1:254]},
		string(lineOf(sampleWithin(256))): {Code: impl.FrameLong},
		string(lineOf(sampleWithin(298))): {Code: impl.FrameLong},
		string(lineOf(sampleWithin(2))):   {Code: impl.FrameShort},
		":0102FD\r \n":                    {Code: impl.FrameForm},
		":" + "Hello, world" + "\n":       {Code: impl.FrameForm},
	}
	for text, want := range frames {
		for _, tick := range []int{0, 12, lastTick} {
			tellsOf(t, impl.AsciiNew(2), text, tick, impl.Ascii{Last: tick, Wait: 2}, want)
			cut := text[:len(text)-1]
			tellsOf(t, impl.AsciiNew(2), cut, tick, impl.Ascii{Buf: []byte(cut), Open: true, Last: tick, Wait: 2})
			// what is told hangs on nothing that came ahead
			tellsOf(t, impl.AsciiNew(2), "\n0\r"+text+"\r\n"+text, tick, impl.Ascii{Last: tick, Wait: 2}, want, want)
		}
	}
}

// sampleWithin is n bytes of the unit 8 with their sum.
func sampleWithin(n int) []byte { return withLrc(append([]byte{8}, sampleBytes(119, n-2)...)) }

func TestATurnedBitInDigitsIsTold(t *testing.T) {
	text := digitsFrame(11, sampleBytes(120, 12))
	for bit := range 8 * len(text) {
		turned := bytes.Clone(text)
		turned[bit/8] ^= 1 << (bit % 8)
		a, want := impl.AsciiNew(2), []impl.Got(nil)
		for _, x := range turned {
			var told []impl.Got
			a, told = slowAscii(a, x, 7)
			want = append(want, told...)
		}
		tellsOf(t, impl.AsciiNew(2), string(turned), 7, a, want...)
		for _, got := range want {
			if got.Code == impl.FrameGood {
				t.Errorf("%q, with a bit turned, is told as good", turned)
			}
		}
	}
}

// Mixed bytes, frames and silences, held against the words of the chapter at each step.
func TestAsciiByManySteps(t *testing.T) {
	for seed := range uint32(200) {
		a := impl.AsciiNew(1 + int(seed)%5)
		tick := later(lastTick-300, int(seed)*3)
		left := []byte("between")
		for i, d := range sampleBytes(seed, 900) {
			if len(left) == 0 {
				left = digitsFrame(i%256, sampleBytes(seed+uint32(i), 1+int(d)%9))
			}
			b := left[0]
			switch {
			case d < 3:
				b = ':'
			case d < 8:
				b ^= 1 << (d % 8)
			case d < 12:
				left = left[:1]
			}
			if d > 235 {
				tick = later(tick, int(d)%7)
			}
			want, told := slowAscii(a, b, tick)
			hearsDigit(t, a, b, tick, want, told...)
			a, left = want, left[1:]
		}
		if t.Failed() {
			t.Fatal("seed", seed)
		}
	}
}

func TestAsciiFramesAreNewMemory(t *testing.T) {
	for _, n := range []int{0, 1, 5, 253, 254} {
		for _, unit := range []int{-1, 0, 9, 256} {
			pdu, unchanged := roomy(t, sampleBytes(121, n))
			b, again := impl.PutAscii(unit, pdu), impl.PutAscii(unit, pdu)
			unchanged("PutAscii")
			was := bytes.Clone(again)
			spoil(b)
			spoil(pdu)
			if !bytes.Equal(again, was) {
				t.Errorf("PutAscii(%d, %d bytes) shares memory", unit, n)
			}
		}
	}
	for _, text := range []string{"", ":", ":0102FD\r\n", ":0102FE\r\n", ":01\r\n", "0102FD\r\n", string(lineOf(sampleWithin(255))), string(lineOf(sampleWithin(256)))} {
		b, unchanged := roomy(t, []byte(text))
		_, first, _ := impl.GetAscii(b)
		_, second, _ := impl.GetAscii(b)
		unchanged("GetAscii")
		was := bytes.Clone(second)
		spoil(first)
		unchanged("what GetAscii answered")
		spoil(b)
		if !bytes.Equal(second, was) {
			t.Errorf("GetAscii of %q shares memory", text)
		}
	}
}

// What lies behind a list's length is not read: a frame that is cut is none, though its end lies behind.
func TestAsciiReadsNothingBehind(t *testing.T) {
	text := digitsFrame(9, []byte{1, 2, 3})
	for cut := range text {
		getsDigits(t, text[:cut], impl.Got{Code: impl.FrameForm})
		a := impl.Ascii{Buf: text[:cut], Open: cut > 0, Wait: 4}
		for _, b := range []byte{'0', '\r', '\n', ':'} {
			want, told := slowAscii(a, b, 1)
			hearsDigit(t, a, b, 1, want, told...)
		}
	}
}

var asciiMemory = memoryOf[impl.Ascii, impl.Got]{
	buf:       func(a *impl.Ascii) *[]byte { return &a.Buf },
	pdu:       gotPdu,
	equal:     equalAscii,
	equalTold: equalGot,
}

func TestAsciiAnswersNewMemory(t *testing.T) {
	for _, a := range slices.Concat(rightAsciis(), wrongAsciis()) {
		for _, tick := range []int{a.Last, later(a.Last, 1), later(a.Last, 2), later(a.Last, 1000), -1, 0, lastTick, lastTick + 1} {
			for _, b := range []byte{':', '0', '\r', '\n'} {
				answersNewMemory(t, "AsciiHear", a, asciiMemory, func(a impl.Ascii) (impl.Ascii, []impl.Got) { return impl.AsciiHear(a, b, tick) })
			}
		}
		buf, unchanged := roomy(t, a.Buf)
		a.Buf = buf
		impl.AsciiOk(a)
		unchanged("AsciiOk")
	}
}
